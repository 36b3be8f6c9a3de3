/- Qbk -/
import Derived.Test.YtaejnmmpddbbjaaGreatDoorQbj
set_option maxRecDepth 100000
set_option maxHeartbeats 16000000
namespace Go.Proofs.YtaejnmmpddbbjaaGreatDoor
namespace Wd
open Go.RowKit Mem Bw Nums Mmu Hex
def qH (p:PW):Bool:=decide (p.Eb.length<=1000)&&(decide (p.kinds.length<=1000)&&(decide (p.DZ.length<=1000)&&(decide (p.DY.length<=1000)&&(decide (p.lines.length<=1000)&&(p.lines.all (fun l=>decide (l.length<=1000))&&(decide (p.bits.length<=1000)&&(decide (p.D6.length<=1000)&&(decide (p.ready.length<=1000)&&(p.ready.all (fun l=>decide (l.length<=1000))&&(decide (p.D9.length<=1000)&&(decide (p.Ee.length<=1000)&&p.D9.all (fun l=>decide (l.length<=100)))))))))))))
theorem kn {p:PW} (h:qH p=true):p.Fits∧∀l∈p.D9,l.length<=100:=by
 unfold qH at h;simp only[al,aR,aN] at h;obtain⟨a,f,g,i,j,k,m,n,o,b,c,d,e⟩:=h;exact⟨⟨a,f,g,i,j,k,m,n,o,b,c,d⟩,e⟩
def qb (a b:ByteArray):Bool:=a.data.toList==b.data.toList
theorem je {a b:ByteArray} (h:qb a b=true):a=b:=kP (by unfold qb at h;simpa using h)
theorem qc {a b:ByteArray} (h:qb a b=false):a≠b:=fun e=>by subst e;unfold qb at h;simp at h
def nat (t:ByteArray):Nat:=(Prs.gG t).toNat
def ky (t:ByteArray):Bool:=decide (0<=Prs.gG t)
theorem uC {t:ByteArray} (h:ky t=true):fI t=true∧Prs.gG t=(nat t:Int):=by
 unfold ky at h;have:=ay h;refine⟨?_,by unfold nat;omega⟩;unfold fI;rw[bT];exact .inr h
theorem _root_.Go.Proofs.YtaejnmmpddbbjaaGreatDoor.cZ:type_of% @uC:= @uC
def clC (p:PW) (s b n:Nat):Bool:=qH p&&(decide (p.DZ.length=p.kinds.length*16)&&(decide (s<p.DZ.length)&&(decide (opE p s=0)&&(decide (1<=n)&&(decide (b+n<=p.kinds.length)&&((List.range n).all (fun d=>p.kinds.getD (b+d) 0==0)&&p.DZ.all (fun s=>s 0 !=1)))))))
theorem AF {p:PW} {b a c:ByteArray} (d:ky b=true) (e:ky a=true) (g:ky c=true) (h:clC p (nat b) (nat a) (nat c)=true):jl p {p with DZ:=p.DZ.set (nat b) (clk (nat a) (nat c))} [⟨#[99,108,97,121]⟩,b,a,c]:=by
 unfold clC at h;simp only[al,aR,aN,List.mem_range,bh,bne_iff_ne] at h;obtain⟨a1,k,l,m,n,o,q,r⟩:=h;obtain⟨u,hl⟩:=kn a1;refine Cz u hl (fun t j=>?_) (by simp only[bP,ef,(cZ d).2,(cZ e).2,(cZ g).2]) k l m n o (fun f s b1 b2=>?_) (fun i hi=>r _ (aw hi))
 ·simp only[bM,dB,or_false] at j;rcases j with rfl|rfl|rfl
  ·exact (cZ d).1
  ·exact (cZ e).1
  ·exact (cZ g).1
 ·have:=q (f - nat a) oA;rw[show nat a+(f - nat a)=f by omega,aa,ac s] at this;exact this
def mkC (p:PW) (kk:Nat) (xk:ByteArray) (n m t:Int):Bool:=qH p&&(wZ p&&(decide (kk<knB.length)&&(qb (knB.getD kk ByteArray.empty) xk&&((List.range kk).all (fun j=> !qb (knB.getD j ByteArray.empty) xk)&&decide (mkE p n (2+(kk:Int)) m t=0)))))
theorem Bi {p:PW} {f:Nat} {g a b c:ByteArray} (n:fI a=true) (o:fI b=true) (q:fI c=true) (h:mkC p f g (Prs.gG a) (Prs.gG b) (Prs.gG c)=true):jl p (mkP p (Prs.gG a) (2+(f:Int)) (Prs.gG b) (Prs.gG c)) [⟨#[109,97,107,101]⟩,g,a,b,c]:=by
 unfold mkC at h;simp only[al,aR,aN,List.mem_range,dh] at h;obtain⟨a1,i,d,k,l,m⟩:=h;obtain⟨u,hl⟩:=kn a1;refine CB u hl (xW i) d ?_ (fun j r s=>?_) (fun t e=>?_) rfl m
 ·have:=je k;rw[aa,ac d] at this;exact this
 ·have:=qc (l j s);rw[aa,ac r] at this;exact this
 ·simp only[bM,dB,or_false] at e;rcases e with rfl|rfl|rfl
  ·exact n
  ·exact o
  ·exact q
def cpC (p:PW) (i j r g:Nat) (s:Nat->Int):Bool:=qH p&&(decide (p.DZ.length=p.kinds.length*16)&&(decide (boE p i j=0)&&(decide (i<p.DZ.length)&&(decide (j<p.DZ.length)&&(decide (s 0≠1)&&(decide (r<=7)&&(decide (g<=65535)&&((decide (g=0)||(decide (0<g)&&((decide (s 0=7)||decide (s 0=8))&&decide (s 5=0))))&&(decide (0<=s 4)&&decide (s 4<=7))))))))))
theorem AG {p:PW} {a b c d:ByteArray} (f:ky a=true) (g:ky b=true) (i:ky c=true) (j:ky d=true) (h:cpC p (nat a) (nat b) (nat c) (nat d) (p.DZ.getD (nat a) eE)=true):
  jl p {p with DZ:=p.DZ.set (nat b) (kpS (p.DZ.getD (nat a) eE) (Bw.bw 6 ((p.DZ.getD (nat a) eE) 4).toNat (nat c):Nat) (nat d) (nat a))} [⟨#[99,111,112,121]⟩,a,b,c,d]:=by
 unfold cpC at h;simp only[al,bT,aR] at h;obtain⟨a1,l,m,e,n,o,q,r,s,v,w⟩:=h;obtain⟨u,hl⟩:=kn a1;refine CA u hl (fun t k=>?_) (by simp only[bP,ef,(cZ f).2,(cZ g).2,(cZ i).2,(cZ j).2]) l m e n (by rw[aa,ac e];rfl) o q r s oA oA;simp only[bM,dB,or_false] at k;rcases k with rfl|rfl|rfl|rfl
 ·exact (cZ f).1
 ·exact (cZ g).1
 ·exact (cZ i).1
 ·exact (cZ j).1
def etC (p:PW) (s g f wr:Nat):Bool:=qH p&&(decide (fmE p s 4=0)&&(decide (g<=255)&&(decide (wr<=1)&&(decide (f<p.kinds.length)&&(decide (p.Eb.length=p.kinds.length*16)&&(decide (p.kinds.getD f 0=3)&&decide (p.Eb.getD (s*16+g/16) 0=0)))))))
theorem AO {p:PW} {a b c d:ByteArray} (e:ky a=true) (f:ky b=true) (g:ky c=true) (i:ky d=true) (h:etC p (nat a) (nat b) (nat c) (nat d)=true):
  jl p {p with Eb:=p.Eb.set (nat a*16+nat b/16) (32768+(nat c:Int))} [⟨#[101,110,116,101,114]⟩,a,b,c,d]:=by
 unfold etC at h;simp only[al,aR] at h;obtain⟨a1,k,l,m,n,o,q,r⟩:=h;obtain⟨s,hl⟩:=kn a1;refine yo s hl (fun t j=>?_) (by simp only[bP,ef,(cZ e).2,(cZ f).2,(cZ g).2,(cZ i).2]) k l m n o q r;simp only[bM,dB,or_false] at j;rcases j with rfl|rfl|rfl|rfl
 ·exact (cZ e).1
 ·exact (cZ f).1
 ·exact (cZ g).1
 ·exact (cZ i).1
def epC (p:PW) (s g f wr ev:Nat):Bool:=qH p&&(decide (fmE p s 4=0)&&(decide (g<=255)&&(decide (wr<=1)&&(decide (f<p.kinds.length)&&(decide (p.Eb.length=p.kinds.length*16)&&(decide (p.kinds.getD f 0=2)&&(decide (p.Eb.getD (s*16+g/16) 0=(ev:Int))&&(decide (0<ev)&&(decide (ev<=65535)&&(decide (ev%1024*16+g%16<p.Eb.length)&&decide (p.Eb.getD (ev%1024*16+g%16) 0=0)))))))))))
theorem AM {p:PW} {d a b c:ByteArray} {e:Nat} (f:ky d=true) (g:ky a=true) (i:ky b=true) (j:ky c=true) (h:epC p (nat d) (nat a) (nat b) (nat c) e=true):
  jl p {p with Eb:=p.Eb.set (e%1024*16+nat a%16) (32768+(nat c:Int)*16384+(nat b:Int))} [⟨#[101,110,116,101,114]⟩,d,a,b,c]:=by
 unfold epC at h;simp only[al,aR] at h;obtain⟨a1,o,q,r,s,u,v,w,x,l,m,n⟩:=h;obtain⟨y,hl⟩:=kn a1;refine yn y hl (fun t k=>?_) (by simp only[bP,ef,(cZ f).2,(cZ g).2,(cZ i).2,(cZ j).2]) o q r s u v w x l m n;simp only[bM,dB,or_false] at k;rcases k with rfl|rfl|rfl|rfl
 ·exact (cZ f).1
 ·exact (cZ g).1
 ·exact (cZ i).1
 ·exact (cZ j).1
def six (a b c d e f:ByteArray) (k:Nat):Int:=[0,Prs.gG a,Prs.gG b,Prs.gG c,Prs.gG d,Prs.gG e,Prs.gG f].getD k 0
def eqC (p:PW) (t:Nat) (N:Nat->Int):Bool:=qH p&&(decide (fmE p t 6=0)&&(decide (t<p.DY.length)&&((decide (N 1= -1)||decide (fmE p (N 1) (eqK 1)=0))&&((decide (N 2= -1)||decide (fmE p (N 2) (eqK 2)=0))&&((decide (N 3= -1)||decide (fmE p (N 3) (eqK 3)=0))&&(decide (0<=N 4)&&(decide (N 4<p.D6.length)&&(decide (0<=N 5)&&(decide (N 5<=3)&&(decide (0<=N 6)&&(decide (N 6<=3)&&decide ((p.DY.getD t bl) 9=0))))))))))))
theorem AN {p:PW} {a b c d e f g:ByteArray} (m:ky a=true) (A:fI b=true) (B:fI c=true) (C:fI d=true) (D:fI e=true) (E:fI f=true) (F:fI g=true) (h:eqC p (nat a) (six b c d e f g)=true):
  jl p (eqP p (nat a) (six b c d e f g)) [⟨#[101,113,117,105,112]⟩,a,b,c,d,e,f,g]:=by
 unfold eqC at h;simp only[al,bT,aR] at h;obtain⟨a1,s,l,u,v,w,x,y,z,o,q,r,j⟩:=h;obtain⟨H,hl⟩:=kn a1;refine An H hl (fun t n=>?_) (by simp only[bP,ef,(cZ m).2];rfl) s l (fun k k1 I i=>?_) x y z o q r (by rw[aa,ac l] at j;exact j)
 ·simp only[bM,dB,or_false] at n;rcases n with rfl|rfl|rfl|rfl|rfl|rfl|rfl
  ·exact (cZ m).1
  ·exact A
  ·exact B
  ·exact C
  ·exact D
  ·exact E
  ·exact F
 ·have G:k=1∨k=2∨k=3:=oA;rcases G with rfl|rfl|rfl
  ·exact u.resolve_left i
  ·exact v.resolve_left i
  ·exact w.resolve_left i
def DH (x:ByteArray):Nat:=(knB.map (qb x)).idxOf true
def sI (p:PW):List ByteArray->Option PW
 |[x,a,b,c]=>if qb ⟨#[99,108,97,121]⟩ x&&(ky a&&(ky b&&(ky c&&clC p (nat a) (nat b) (nat c)))) then some {p with DZ:=p.DZ.set (nat a) (clk (nat b) (nat c))} else none
 |[x,a,b,c,d]=>
  if qb ⟨#[109,97,107,101]⟩ x then (if fI b&&(fI c&&(fI d&&mkC p (DH a) a (Prs.gG b) (Prs.gG c) (Prs.gG d))) then some (mkP p (Prs.gG b) (2+(DH a:Int)) (Prs.gG c) (Prs.gG d)) else none)
  else if ky a&&(ky b&&(ky c&&ky d)) then
   (if qb ⟨#[99,111,112,121]⟩ x then (if cpC p (nat a) (nat b) (nat c) (nat d) (p.DZ.getD (nat a) eE) then some {p with DZ:=p.DZ.set (nat b) (kpS (p.DZ.getD (nat a) eE) (Bw.bw 6 ((p.DZ.getD (nat a) eE) 4).toNat (nat c):Nat) (nat d) (nat a))} else none)
   else if qb ⟨#[101,110,116,101,114]⟩ x then
    (if etC p (nat a) (nat b) (nat c) (nat d) then some {p with Eb:=p.Eb.set (nat a*16+nat b/16) (32768+(nat c:Int))}
    else if epC p (nat a) (nat b) (nat c) (nat d) (p.Eb.getD (nat a*16+nat b/16) 0).toNat then some {p with Eb:=p.Eb.set ((p.Eb.getD (nat a*16+nat b/16) 0).toNat%1024*16+nat b%16) (32768+(nat d:Int)*16384+(nat c:Int))} else none)
   else none)
  else none
 |[x,a,b,c,d,e,f,g]=>if qb ⟨#[101,113,117,105,112]⟩ x&&(ky a&&(fI b&&(fI c&&(fI d&&(fI e&&(fI f&&(fI g&&eqC p (nat a) (six b c d e f g)))))))) then some (eqP p (nat a) (six b c d e f g)) else none
 |_=>none
theorem xd {p p':PW}:∀{xs:List ByteArray},sI p xs=some p'->jl p p' xs
 |[x,a,b,c],h=>by
  rw[sI] at h;split at h
  ·rename_i hc;simp only[al] at hc;obtain⟨i,j,k,l,m⟩:=hc
   cases h
   rw[<-je i];exact AF j k l m
  ·cases h
 |[x,a,b,c,d],h=>by
  rw[sI] at h;split at h
  ·rename_i hx;split at h
   ·rename_i hc;simp only[al] at hc;obtain⟨i,j,k,l⟩:=hc
    cases h
    rw[<-je hx];exact Bi i j k l
   ·cases h
  ·split at h
   ·rename_i hn;simp only[al] at hn;obtain⟨i,j,k,l⟩:=hn;split at h
    ·rename_i hx;split at h
     ·rename_i hc
      cases h
      rw[<-je hx];exact AG i j k l hc
     ·cases h
    ·split at h
     ·rename_i hx;split at h
      ·rename_i hc
       cases h
       rw[<-je hx];exact AO i j k l hc
      ·split at h
       ·rename_i hc
        cases h
        rw[<-je hx];exact AM i j k l hc
       ·cases h
     ·cases h
   ·cases h
 |[x,a,b,c,d,e,f,g],h=>by
  rw[sI] at h;split at h
  ·rename_i hc;simp only[al] at hc;obtain⟨i,j,k,l,m,n,o,q,r⟩:=hc
   cases h
   rw[<-je i];exact AN j k l m n o q r
  ·cases h
 |[],h=>by cases h
 |[_],h=>by cases h
 |[_,_],h=>by cases h
 |[_,_,_],h=>by cases h
 |[_,_,_,_,_,_],h=>by cases h
 |[_,_,_,_,_,_,_],h=>by cases h
 |_::_::_::_::_::_::_::_::_::_,h=>by cases h
def sU:List (List ByteArray)->PW->Nat->Option PW
 |[],p,_=>some p
 |_::_,p,0=>some p
 |xs::r,p,n+1=>match sI p xs with
  |some q=>sU r q n
  |none=>none
theorem lI:∀{a:List (List ByteArray)} {p p':PW} {n:Nat} {xs:List ByteArray},a[n]? =some xs->sU a p (n+1)=some p'->∃q,sU a p n=some q∧sI q xs=some p'
 |[],_,_,_,_,h,_=>by simp at h
 |ys::r,p,p',0,xs,h,hr=>by
  simp at h;subst h;unfold sU at hr;split at hr
  ·rename_i q hq;have:q=p':=by cases r<;>(unfold sU at hr;cases hr;rfl)
   subst this;exact⟨p,by unfold sU;rfl,hq⟩
  ·cases hr
 |ys::r,p,p',n+1,xs,h,hr=>by
  simp only[aM] at h;unfold sU at hr;split at hr
  ·rename_i q hq;obtain⟨d,b,c⟩:=lI h hr;refine⟨d,?_,c⟩;unfold sU;rw[hq];exact b
  ·cases hr
theorem nH {b:List (List ByteArray)} {p:PW}:∀{n:Nat} {a:PW},n<=b.length->sU b p n=some a->∀m,m<=n->∃q,sU b p m=some q
 |0,a,_,h,m,hm=>by
  obtain rfl:m=0:=oA;exact⟨a,h⟩
 |n+1,a,hn,h,m,hm=>by
  by_cases e:m=n+1
  ·subst e;exact⟨a,h⟩
  ·obtain⟨q,c,_⟩:=lI (ac (show n<b.length by omega)) h;exact nH oA c m oA
def uN:List ByteArray->Bool
 |x::_=> !qb x ⟨#[119,111,114,108,100]⟩&& !qb x ⟨#[99,111,100,101]⟩
 |[]=>false
def fE (ls:List ByteArray) (p1:PW) (i:Nat):PW:=(sU ((ls.drop 1).map (jL 32)) p1 (i - 1)).getD p1
theorem rI {ls:List ByteArray} {f c:Nat} {zs:List Int} {l:List ByteArray} (n0:0<ls.length) (nn:ls.length<=200) (sz:ls.all (fun t=>decide (t.size<=1000))=true) (e1:jL 32 (ls.getD 0 ByteArray.empty)=⟨#[119,111,114,108,100]⟩::l) (n:∀t∈l,fI t=true) (hl:l.length<=100) (m:l.map Prs.gG=(f:Int)::(c:Int)::zs)
  (num:1<=f∧f<=24∧1<=c∧c<=4∧1<=zs.length∧zs.length<=8∧∀z∈zs,0<=z∧z<=3) (o:((ls.drop 1).map (jL 32)).all uN=true) (p:(sU ((ls.drop 1).map (jL 32)) (wlP f c zs) (ls.length - 1)).isSome=true):vq ls (fE ls (wlP f c zs)) f c zs:=by
 obtain⟨v,h⟩:=Option.isSome_iff_exists.1 p;have b:((ls.drop 1).map (jL 32)).length=ls.length - 1:=oS;refine⟨n0,nn,fun t r=>ay (aN.1 sz t r),⟨l,e1,n,hl,m,?_⟩,num,fun i s d=>?_⟩
 ·unfold fE;obtain⟨q,u⟩:=nH (by rw[b];exact ar _) h 0 oA
  cases hx:(ls.drop 1).map (jL 32)<;>rfl
 ·have hi:i - 1<((ls.drop 1).map (jL 32)).length:=by rw[b];omega
  have g:((ls.drop 1).map (jL 32))[i - 1]? =some (jL 32 (ls.getD i ByteArray.empty)):=by
   rw[cM,cW,show 1+(i - 1)=i by omega,ac d,aa,ac d];rfl
  obtain⟨p2,e⟩:=nH (by rw[b];exact ar _) h (i - 1+1) oA;obtain⟨q,j,k⟩:=lI g e;have a:=aN.1 o _ (dG g);have w1:fE ls (wlP f c zs) i=q:=by unfold fE;rw[j];rfl
  have w2:fE ls (wlP f c zs) (i+1)=p2:=by unfold fE;rw[show i+1 - 1=i - 1+1 by omega,e];rfl
  rw[w1,w2];generalize jL 32 (ls.getD i ByteArray.empty)=xs at*
  cases xs with
  |nil=>unfold uN at a;cases a
  |cons x l=>
   unfold uN at a;simp only[al,dh] at a;exact⟨x,l,rfl,qc a.1,qc a.2,xd k⟩
def xP:ByteArray:=⟨#[119,111,114,108,100,32,50,52,32,50,32,48,10,99,108,97,121,32,49,32,49,32,50,48,10,109,97,107,101,32,110,111,100,101,32,49,32,49,32,50,10,109,97,107,101,32,115,112,97,99,101,32,49,32,49,32,51,10,109,97,107,101,32,116,97,98,108,101,32,49,32,49,32,52,10,109,97,107,101,32,112,97,103,101,32,49,32,52,32,53,10,109,97,107,101,32,116,97,115,107,32,49,32,50,32,57,10,109,97,107,101,32,100,111,111,114,32,49,32,49,32,49,49,10,109,97,107,101,32,98,101,108,108,32,49,32,49,32,49,50,10,99,111,112,121,32,49,49,32,49,54,32,55,32,53,10,99,111,112,121,32,49,50,32,49,55,32,55,32,50,10,99,111,112,121,32,49,48,32,49,56,32,55,32,48,10,99,111,112,121,32,55,32,49,57,32,51,32,48,10,99,111,112,121,32,51,32,50,48,32,55,32,48,10,99,111,112,121,32,52,32,50,49,32,55,32,48,10,99,111,112,121,32,50,32,50,50,32,55,32,48,10,99,111,112,121,32,57,32,50,51,32,54,32,48,10,101,110,116,101,114,32,50,32,48,32,51,32,48,10,101,110,116,101,114,32,50,32,48,32,52,32,48,10,101,110,116,101,114,32,50,32,49,32,53,32,48,10,101,110,116,101,114,32,50,32,50,32,54,32,49,10,101,113,117,105,112,32,56,32,48,32,50,32,45,32,48,32,49,32,48,10,101,113,117,105,112,32,57,32,49,32,50,32,49,48,32,49,32,50,32,48,10]⟩
def DV:PW:=fE (Prs.fT xP) (wlP 24 2 [0]) (Prs.fT xP).length
theorem uI:vq (Prs.fT xP) (fE (Prs.fT xP) (wlP 24 2 [0])) 24 2 [0]:=
 rI (l:=[⟨#[50,52]⟩,⟨#[50]⟩,⟨#[48]⟩]) (ay oK) (ay oK) oK oK oD oD oK oD oK oK
end Wd
namespace Nums
open Go.RowKit Mem
-- from Ints.tpl
def fq (c n:Int):Int:=if c<0 then (-(c+1)).tmod n else c.tmod n
theorem lA (c n:Int) (a:0<n):0<=fq c n∧fq c n<n:=by
 unfold fq;split
 ·have:0<= -(c+1):=oA;rw[cC this];exact⟨Int.emod_nonneg _ oA,Int.emod_lt_of_pos _ a⟩
 ·have:0<=c:=oA;rw[cC this];exact⟨Int.emod_nonneg _ oA,Int.emod_lt_of_pos _ a⟩
theorem _root_.Go.Proofs.YtaejnmmpddbbjaaGreatDoor.bO:type_of% @lA:= @lA
theorem uM (c n:Int) (w:World) (b: -9223372036854775808<=c) (d:c<=9223372036854775807) (f:0<n):
  Calls Tryz.prog 6 #[.int .i64 c,.int .i64 n] w fun e w'=>e=.returned (.int .i64 (fq c n))∧w=w':=by
 have g:n≠0:=oA;by_cases a:c<0
 ·go_enter Tryz.func6,Tryz.ntmps6
  go_wp2_with fail
  go_ret
  refine⟨nF ?_,rfl⟩;unfold fq;rw[af a,Int.neg_tmod]
 ·go_enter Tryz.func6,Tryz.ntmps6
  go_wp2_with fail
  go_ret
  refine⟨nF ?_,rfl⟩;unfold fq;rw[ae oA,cC oA]
theorem _root_.Go.Proofs.YtaejnmmpddbbjaaGreatDoor.dK:type_of% @uM:= @uM
end Nums
namespace Mad
open Go.RowKit Mem Nums Wd
-- from MadeIns.tpl
def yi (w:World) (b off:Nat) (zs:List (Int×Int×Int×Int)):Prop:=
 ∀j (h:j<zs.length),w.cell? ⟨b,off+j*4,none⟩=some (.int .i64 zs[j].1)∧w.cell? ⟨b,off+j*4+1,none⟩=some (.int .i64 zs[j].2.1)∧w.cell? ⟨b,off+j*4+2,none⟩=some (.int .i64 zs[j].2.2.1)∧w.cell? ⟨b,off+j*4+3,none⟩=some (.int .i64 zs[j].2.2.2)
theorem yR:(Tryz.prog.info? 131).map (fun i=>(i.zero,i.size,i.bytes))=some (some (.agg zQ),4,32):=oK
def iz (l:List (Int×Int×Int×Int)):List Value:=l.flatMap fun q=>[.int .i64 q.1,.int .i64 q.2.1,.int .i64 q.2.2.1,.int .i64 q.2.2.2]
theorem s8 (l:List (Int×Int×Int×Int)) (j:Nat) (h:j<l.length):(iz l)[j*4]? =some (.int .i64 l[j].1)∧(iz l)[j*4+1]? =some (.int .i64 l[j].2.1)∧(iz l)[j*4+2]? =some (.int .i64 l[j].2.2.1)∧(iz l)[j*4+3]? =some (.int .i64 l[j].2.2.2):=by
 induction l generalizing j with
 |nil=>simp at h
 |cons q l ih=>
  have e:iz (q::l)=.int .i64 q.1::.int .i64 q.2.1::.int .i64 q.2.2.1::.int .i64 q.2.2.2::iz l:=rfl;rw[e]
  cases j with
  |zero=>exact⟨rfl,rfl,rfl,rfl⟩
  |succ j=>
   have:=ih j (by simpa using h);have e2:(j+1)*4=j*4+4:=oA;rw[e2];exact this
theorem kQ (l:List (Int×Int×Int×Int)) (q:Int×Int×Int×Int):iz (l++[q])=iz l++[.int .i64 q.1,.int .i64 q.2.1,.int .i64 q.2.2.1,.int .i64 q.2.2.2]:=by
 unfold iz;rw[List.flatMap_append];rfl
theorem _root_.Go.Proofs.YtaejnmmpddbbjaaGreatDoor.dA:type_of% @kQ:= @kQ
theorem eD (W:World) (a b c d:Value) (e:TypeId):∀(j:Nat) (x:Value),[a,b,c,d][j]? =some x->(W.alloc (.cells #[a,b,c,d] e)).cell? ((⟨W.heap.size,0,none⟩:Addr).add j)=some x:=by
 intro j x h;rw[show (⟨W.heap.size,0,none⟩:Addr).add j=⟨W.heap.size,j,none⟩ from by unfold Addr.add;split<;>simp_all,dH _ _ _ _ rfl];rw[<-h];simp
theorem om (a b c d:Int):∀x∈[Value.int .i64 a,.int .i64 b,.int .i64 c,.int .i64 d],x.oneCell'=true:=by
 intro x e;simp at e;rcases e with rfl|rfl|rfl|rfl<;>rfl
theorem _root_.Go.Proofs.YtaejnmmpddbbjaaGreatDoor.d6:type_of% @om:= @om
theorem zq {w:World} {B:Nat} {v:Value} {l:List (Int×Int×Int×Int)} (h:w.ownsRow B 131 4 v l.length (iz l)) (hl:l≠[]):∃b cap,v=.slice (some ⟨b,0,none⟩) l.length cap∧yi w b 0 l∧B<=b:=by
 rcases h.2 with ⟨rfl,a⟩|⟨g,cap,f,rfl,a,_⟩
 ·exact absurd (List.length_eq_zero_iff.1 a) hl
 ·refine⟨g,cap,rfl,fun j e=>?_,a⟩;obtain⟨c,e1,e2,d⟩:=s8 l j e;simp only[az];rw[h.cellAt (j*4) oA,h.cellAt (j*4+1) oA,h.cellAt (j*4+2) oA,h.cellAt (j*4+3) oA];exact⟨c,e1,e2,d⟩
theorem nC (v:Value) (zs:List Int) (i:Nat) (w:World) (p:mQ w v zs) (hl:zs.length<=256) (hi:i<=200):
  Calls Tryz.prog 12 #[v,.int .i64 i] w fun e w'=>∃r:Int,e=.returned (.int .i64 r)∧0<=r∧r<3000000∧Below w.heap.size w w':=by
 obtain⟨q,b,off,cap,rfl,n,s,l⟩:=p
 cases zs with
 |nil=>
  go_enter Tryz.func12,Tryz.ntmps12
  go_wp2_with fail
  go_ret
  exact⟨(i:Int)*31,rfl,oA,oA,ai _ _⟩
 |cons z0 zr=>
  have c:0<(z0::zr).length:=oS;generalize z0::zr=zs at*;have o:=n c;subst o;have a:i%zs.length<zs.length:=Nat.mod_lt _ c;have m:=s (i%zs.length) a;have f:=l zs[i%zs.length] (aw a);generalize zs[i%zs.length]=z at m f;obtain⟨g,k⟩:=f;have t:(0:Int)<(zs.length:Int):=oA;have u:((zs.length:Int)==0)=false:=beq_eq_false_iff_ne.2 oA;have B:((i:Int).tmod (zs.length:Int))=((i%zs.length:Nat):Int):=by rw[cC oA];simp
  have y:((i:Int).tdiv (zs.length:Int))=((i/zs.length:Nat):Int):=by rw[bN oA];simp
  have x:i/zs.length<=200:=aB (Nat.div_le_self _ _) hi;obtain⟨C,D⟩:=bO z 1000003 oD;have A:=Int.ofNat_lt.2 a;generalize i%zs.length=j at*;generalize i/zs.length=d at*;go_enter Tryz.func12,Tryz.ntmps12
  go_wp2_with fail
  go_quiet (first|(go_at_call 6;refine dM ((dK _ _ _ g k oD).mono fun _ _ h=>⟨h.1,h.2.symm⟩)))
  go_wp2_with fail
  go_ret
  exact⟨fq z 1000003+(d:Int)*7919,by first|rfl|(simp;done),oA,oA,aC _ _⟩
def lX (q:Int×Int×Int×Int):Prop:=(0<=q.1∧q.1<=14)∧(0<=q.2.1∧q.2.1<=7)∧(0<=q.2.2.1∧q.2.2.1<=7)∧0<=q.2.2.2∧q.2.2.2<=49
theorem fo {o a b i:Int} (e:0<=o∧o<=14) (c:0<=a∧a<=7) (d:0<=b∧b<=7) (hi:0<=i∧i<=49):lX (o,a,b,i):=⟨e,c,d,hi⟩
theorem ot {l:List (Int×Int×Int×Int)} {q:Int×Int×Int×Int} (h:∀x∈l,lX x) (b:lX q):∀x∈l++[q],lX x:=by
 intro x a;rcases dt.1 a with a|a
 ·exact h x a
 ·simp at a;subst a;exact b
theorem _root_.Go.Proofs.YtaejnmmpddbbjaaGreatDoor.dZ:type_of% @ot:= @ot
theorem kj (v:Value) (rs:List Int) (a:Nat) (w:World) (T:mQ w v rs) (R:rs.length<=256) (V:a<100) (cl:Nat) (Q:0<(cl:Int)) (X:(cl:Int)<=18):
  Calls Tryz.prog 31 #[v,.int .i64 a,.int .i64 cl] w fun e w'=>∃b cap zs,e=.returned (.slice (some ⟨b,0,none⟩) zs.length cap)∧zs.length=16∧(∀q∈zs,lX q)∧yi w' b 0 zs∧w.heap.size<=b∧Below w.heap.size w w':=by
 obtain⟨i0,hi,t,x,y⟩:=eH yR;have N:=hid T;go_enter Tryz.func31,Tryz.ntmps31
 go_wp2_with fail
 go_loopw [7,8] (fun u i wr=>∃(k:Nat) (l:List (Int×Int×Int×Int)),k<=15∧i=.int .i64 k∧l.length=k∧(∀q∈l,lX q)∧wr.ownsRow w.heap.size 131 4 u l.length (iz l)∧Below w.heap.size w wr) (fun _ i _=>15 - (intOf i).toNat)
 case atStart=>exact⟨0,[],oA,rfl,rfl,fun q h=>by simp at h,cO _ _ _ _,ai _ _⟩
 case round=>
  obtain⟨k,l,hk,rfl,L,K,J,hB⟩:=hrel;have p:=hid K;have G:=hid J;have F:=hid hB;have s:=hid L;have aa:l.length<=15:=oA;clear K J hB L;by_cases ab:k<15
  ·have ac:(k:Int)<15:=oA;have I:=hid (show Calls Tryz.prog 12 #[v,.int .i64 ((a:Int)+(k:Int))] wr fun e w'=>∃r:Int,e=.returned (.int .i64 r)∧0<=r∧r<3000000∧Below wr.heap.size wr w' by
    have:=nC v rs (a+k) wr (N.below F) R oA;rw[Int.natCast_add] at this;exact this)
   go_wp2_with fail
   refine I.mono ?_;rintro e C ⟨c,rfl,Q,W,H⟩;have n:=hid (ex G H);have d:=hid (btr F H);clear H I;go_wp2_with fail
   refine (dK _ _ _ oA oA oD).mono ?_;rintro e w' ⟨rfl,rfl⟩;obtain⟨Y,Z⟩:=bO (c/16) 32 oD;generalize fq (c/16) 32=o at*;go_wp2_with fail
   refine (dK _ _ _ oA oA oD).mono ?_;rintro e w' ⟨rfl,rfl⟩;obtain⟨ad,ae⟩:=bO c 16 oD;generalize fq c 16=B at*;have S:B=0∨B=1∨B=2∨B=3∨B=4∨B=5∨B=6∨B=7∨B=8∨B=9∨B=10∨B=11∨B=12∨B=13∨B=14∨B=15:=oA;rcases S with rfl|rfl|rfl|rfl|rfl|rfl|rfl|rfl|rfl|rfl|rfl|rfl|rfl|rfl|rfl|rfl
   ·go_wp2_with (at_builtin;refine aW _ rfl _ _ 75 rfl w.heap.size 131 i0 (.agg zQ) 4 32 Tryz.underlying75 hi t x y rfl oD _ _ _ rfl (n.alloc _) ⟨C.heap.size,0,none⟩ 1 1 [.int .i64 1,.int .i64 1,.int .i64 0,.int .i64 o] rfl rfl ?c1 (d6 _ _ _ _) ?c3 ?c4 ?c5 ?_)
    case c1=>exact eD _ _ _ _ _ _
    case c3=>unfold maxLen;omega
    case c4=>omega
    case c5=>have:=d.size;simp;omega
    intro z A g f _;have j:=hid ((bal d _).grown f (by have:=d.size;simp;omega) (fun k hk=>(n.lt k hk).1));have m:=hid g;clear g f;go_wp2_with fail
    refine⟨⟨k+1,l++[(1,1,0,o)],oA,by go_num,by rw[av,s.out];rfl,dZ p (fo oA oA oA oA),?_,j.out⟩,by simp[intOf];omega⟩;rw[dA,av];exact m
   ·go_wp2_with (at_builtin;refine aW _ rfl _ _ 75 rfl w.heap.size 131 i0 (.agg zQ) 4 32 Tryz.underlying75 hi t x y rfl oD _ _ _ rfl (n.alloc _) ⟨C.heap.size,0,none⟩ 1 1 [.int .i64 1,.int .i64 1,.int .i64 0,.int .i64 o] rfl rfl ?c1 (d6 _ _ _ _) ?c3 ?c4 ?c5 ?_)
    case c1=>exact eD _ _ _ _ _ _
    case c3=>unfold maxLen;omega
    case c4=>omega
    case c5=>have:=d.size;simp;omega
    intro z A g f _;have j:=hid ((bal d _).grown f (by have:=d.size;simp;omega) (fun k hk=>(n.lt k hk).1));have m:=hid g;go_wp2_with fail
    refine⟨⟨k+1,l++[(1,1,0,o)],oA,by go_num,by rw[av,s.out];rfl,dZ p (fo oA oA oA oA),?_,j.out⟩,by simp[intOf];omega⟩;rw[dA,av];exact m
   ·go_wp2_with (at_builtin;refine aW _ rfl _ _ 75 rfl w.heap.size 131 i0 (.agg zQ) 4 32 Tryz.underlying75 hi t x y rfl oD _ _ _ rfl (n.alloc _) ⟨C.heap.size,0,none⟩ 1 1 [.int .i64 1,.int .i64 1,.int .i64 0,.int .i64 o] rfl rfl ?c1 (d6 _ _ _ _) ?c3 ?c4 ?c5 ?_)
    case c1=>exact eD _ _ _ _ _ _
    case c3=>unfold maxLen;omega
    case c4=>omega
    case c5=>have:=d.size;simp;omega
    intro z A g f _;have j:=hid ((bal d _).grown f (by have:=d.size;simp;omega) (fun k hk=>(n.lt k hk).1));have m:=hid g;go_wp2_with fail
    refine⟨⟨k+1,l++[(1,1,0,o)],oA,by go_num,by rw[av,s.out];rfl,dZ p (fo oA oA oA oA),?_,j.out⟩,by simp[intOf];omega⟩;rw[dA,av];exact m
   ·go_wp2_with (at_builtin;refine aW _ rfl _ _ 75 rfl w.heap.size 131 i0 (.agg zQ) 4 32 Tryz.underlying75 hi t x y rfl oD _ _ _ rfl (n.alloc _) ⟨C.heap.size,0,none⟩ 1 1 [.int .i64 1,.int .i64 2,.int .i64 0,.int .i64 o] rfl rfl ?c1 (d6 _ _ _ _) ?c3 ?c4 ?c5 ?_)
    case c1=>exact eD _ _ _ _ _ _
    case c3=>unfold maxLen;omega
    case c4=>omega
    case c5=>have:=d.size;simp;omega
    intro z A g f _;have j:=hid ((bal d _).grown f (by have:=d.size;simp;omega) (fun k hk=>(n.lt k hk).1));have m:=hid g;go_wp2_with fail
    refine⟨⟨k+1,l++[(1,2,0,o)],oA,by go_num,by rw[av,s.out];rfl,dZ p (fo oA oA oA oA),?_,j.out⟩,by simp[intOf];omega⟩;rw[dA,av];exact m
   ·go_wp2_with (at_builtin;refine aW _ rfl _ _ 75 rfl w.heap.size 131 i0 (.agg zQ) 4 32 Tryz.underlying75 hi t x y rfl oD _ _ _ rfl (n.alloc _) ⟨C.heap.size,0,none⟩ 1 1 [.int .i64 1,.int .i64 2,.int .i64 0,.int .i64 o] rfl rfl ?c1 (d6 _ _ _ _) ?c3 ?c4 ?c5 ?_)
    case c1=>exact eD _ _ _ _ _ _
    case c3=>unfold maxLen;omega
    case c4=>omega
    case c5=>have:=d.size;simp;omega
    intro z A g f _;have j:=hid ((bal d _).grown f (by have:=d.size;simp;omega) (fun k hk=>(n.lt k hk).1));have m:=hid g;go_wp2_with fail
    refine⟨⟨k+1,l++[(1,2,0,o)],oA,by go_num,by rw[av,s.out];rfl,dZ p (fo oA oA oA oA),?_,j.out⟩,by simp[intOf];omega⟩;rw[dA,av];exact m
   ·go_wp2_with fail
    refine (dK _ _ _ oA oA oD).mono ?_;rintro e w' ⟨rfl,rfl⟩;obtain⟨D,E⟩:=bO o 9 oD;generalize fq o 9=r at*;go_wp2_with (at_builtin;refine aW _ rfl _ _ 75 rfl w.heap.size 131 i0 (.agg zQ) 4 32 Tryz.underlying75 hi t x y rfl oD _ _ _ rfl (n.alloc _) ⟨C.heap.size,0,none⟩ 1 1 [.int .i64 1,.int .i64 3,.int .i64 0,.int .i64 r] rfl rfl ?c1 (d6 _ _ _ _) ?c3 ?c4 ?c5 ?_)
    case c1=>exact eD _ _ _ _ _ _
    case c3=>unfold maxLen;omega
    case c4=>omega
    case c5=>have:=d.size;simp;omega
    intro z A g f _;have j:=hid ((bal d _).grown f (by have:=d.size;simp;omega) (fun k hk=>(n.lt k hk).1));have m:=hid g;go_wp2_with fail
    refine⟨⟨k+1,l++[(1,3,0,r)],oA,by go_num,by rw[av,s.out];rfl,dZ p (fo oA oA oA oA),?_,j.out⟩,by simp[intOf];omega⟩;rw[dA,av];exact m
   ·go_wp2_with fail
    refine (dK _ _ _ oA oA oD).mono ?_;rintro e w' ⟨rfl,rfl⟩;obtain⟨D,E⟩:=bO o 4 oD;generalize fq o 4=r at*;go_wp2_with (at_builtin;refine aW _ rfl _ _ 75 rfl w.heap.size 131 i0 (.agg zQ) 4 32 Tryz.underlying75 hi t x y rfl oD _ _ _ rfl (n.alloc _) ⟨C.heap.size,0,none⟩ 1 1 [.int .i64 1,.int .i64 4,.int .i64 0,.int .i64 r] rfl rfl ?c1 (d6 _ _ _ _) ?c3 ?c4 ?c5 ?_)
    case c1=>exact eD _ _ _ _ _ _
    case c3=>unfold maxLen;omega
    case c4=>omega
    case c5=>have:=d.size;simp;omega
    intro z A g f _;have j:=hid ((bal d _).grown f (by have:=d.size;simp;omega) (fun k hk=>(n.lt k hk).1));have m:=hid g;go_wp2_with fail
    refine⟨⟨k+1,l++[(1,4,0,r)],oA,by go_num,by rw[av,s.out];rfl,dZ p (fo oA oA oA oA),?_,j.out⟩,by simp[intOf];omega⟩;rw[dA,av];exact m
   ·go_wp2_with fail
    refine (dK _ _ _ oA oA oD).mono ?_;rintro e w' ⟨rfl,rfl⟩;obtain⟨D,E⟩:=bO o 18 oD;generalize fq o 18=r at*;go_wp2_with (at_builtin;refine aW _ rfl _ _ 75 rfl w.heap.size 131 i0 (.agg zQ) 4 32 Tryz.underlying75 hi t x y rfl oD _ _ _ rfl (n.alloc _) ⟨C.heap.size,0,none⟩ 1 1 [.int .i64 11,.int .i64 2,.int .i64 7,.int .i64 (32+r)] rfl rfl ?c1 (d6 _ _ _ _) ?c3 ?c4 ?c5 ?_)
    case c1=>exact eD _ _ _ _ _ _
    case c3=>unfold maxLen;omega
    case c4=>omega
    case c5=>have:=d.size;simp;omega
    intro z A g f _;have j:=hid ((bal d _).grown f (by have:=d.size;simp;omega) (fun k hk=>(n.lt k hk).1));have m:=hid g;go_wp2_with fail
    refine⟨⟨k+1,l++[(11,2,7,(32+r))],oA,by go_num,by rw[av,s.out];rfl,dZ p (fo oA oA oA oA),?_,j.out⟩,by simp[intOf];omega⟩;rw[dA,av];exact m
   ·go_wp2_with fail
    refine (dK _ _ _ oA oA oD).mono ?_;rintro e w' ⟨rfl,rfl⟩;obtain⟨D,E⟩:=bO o 20 oD;generalize fq o 20=r at*;go_wp2_with (at_builtin;refine aW _ rfl _ _ 75 rfl w.heap.size 131 i0 (.agg zQ) 4 32 Tryz.underlying75 hi t x y rfl oD _ _ _ rfl (n.alloc _) ⟨C.heap.size,0,none⟩ 1 1 [.int .i64 10,.int .i64 5,.int .i64 7,.int .i64 (30+r)] rfl rfl ?c1 (d6 _ _ _ _) ?c3 ?c4 ?c5 ?_)
    case c1=>exact eD _ _ _ _ _ _
    case c3=>unfold maxLen;omega
    case c4=>omega
    case c5=>have:=d.size;simp;omega
    intro z A g f _;have j:=hid ((bal d _).grown f (by have:=d.size;simp;omega) (fun k hk=>(n.lt k hk).1));have m:=hid g;go_wp2_with fail
    refine⟨⟨k+1,l++[(10,5,7,(30+r))],oA,by go_num,by rw[av,s.out];rfl,dZ p (fo oA oA oA oA),?_,j.out⟩,by simp[intOf];omega⟩;rw[dA,av];exact m
   ·go_wp2_with fail
    refine (dK _ _ _ oA oA oD).mono ?_;rintro e w' ⟨rfl,rfl⟩;obtain⟨D,E⟩:=bO o 7 oD;generalize fq o 7=r at*;go_wp2_with (at_builtin;refine aW _ rfl _ _ 75 rfl w.heap.size 131 i0 (.agg zQ) 4 32 Tryz.underlying75 hi t x y rfl oD _ _ _ rfl (n.alloc _) ⟨C.heap.size,0,none⟩ 1 1 [.int .i64 (3+r),.int .i64 5,.int .i64 2,.int .i64 0] rfl rfl ?c1 (d6 _ _ _ _) ?c3 ?c4 ?c5 ?_)
    case c1=>exact eD _ _ _ _ _ _
    case c3=>unfold maxLen;omega
    case c4=>omega
    case c5=>have:=d.size;simp;omega
    intro z A g f _;have j:=hid ((bal d _).grown f (by have:=d.size;simp;omega) (fun k hk=>(n.lt k hk).1));have m:=hid g;go_wp2_with fail
    refine⟨⟨k+1,l++[((3+r),5,2,0)],oA,by go_num,by rw[av,s.out];rfl,dZ p (fo oA oA oA oA),?_,j.out⟩,by simp[intOf];omega⟩;rw[dA,av];exact m
   ·go_wp2_with fail
    refine (dK _ _ _ oA oA oD).mono ?_;rintro e w' ⟨rfl,rfl⟩;obtain⟨D,E⟩:=bO o 15 oD;generalize fq o 15=r at*;go_wp2_with (at_builtin;refine aW _ rfl _ _ 75 rfl w.heap.size 131 i0 (.agg zQ) 4 32 Tryz.underlying75 hi t x y rfl oD _ _ _ rfl (n.alloc _) ⟨C.heap.size,0,none⟩ 1 1 [.int .i64 13,.int .i64 0,.int .i64 0,.int .i64 (2*r)] rfl rfl ?c1 (d6 _ _ _ _) ?c3 ?c4 ?c5 ?_)
    case c1=>exact eD _ _ _ _ _ _
    case c3=>unfold maxLen;omega
    case c4=>omega
    case c5=>have:=d.size;simp;omega
    intro z A g f _;have j:=hid ((bal d _).grown f (by have:=d.size;simp;omega) (fun k hk=>(n.lt k hk).1));have m:=hid g;go_wp2_with fail
    refine⟨⟨k+1,l++[(13,0,0,(2*r))],oA,by go_num,by rw[av,s.out];rfl,dZ p (fo oA oA oA oA),?_,j.out⟩,by simp[intOf];omega⟩;rw[dA,av];exact m
   ·go_wp2_with fail
    refine (dK _ _ _ oA oA oA).mono ?_;rintro e w' ⟨rfl,rfl⟩;obtain⟨D,E⟩:=bO o cl oA;generalize fq o cl=r at*;go_wp2_with (at_builtin;refine aW _ rfl _ _ 75 rfl w.heap.size 131 i0 (.agg zQ) 4 32 Tryz.underlying75 hi t x y rfl oD _ _ _ rfl (n.alloc _) ⟨C.heap.size,0,none⟩ 1 1 [.int .i64 14,.int .i64 0,.int .i64 0,.int .i64 r] rfl rfl ?c1 (d6 _ _ _ _) ?c3 ?c4 ?c5 ?_)
    case c1=>exact eD _ _ _ _ _ _
    case c3=>unfold maxLen;omega
    case c4=>omega
    case c5=>have:=d.size;simp;omega
    intro z A g f _;have j:=hid ((bal d _).grown f (by have:=d.size;simp;omega) (fun k hk=>(n.lt k hk).1));have m:=hid g;go_wp2_with fail
    refine⟨⟨k+1,l++[(14,0,0,r)],oA,by go_num,by rw[av,s.out];rfl,dZ p (fo oA oA oA oA),?_,j.out⟩,by simp[intOf];omega⟩;rw[dA,av];exact m
   ·go_wp2_with fail
    refine (dK _ _ _ oA oA oA).mono ?_;rintro e w' ⟨rfl,rfl⟩;obtain⟨D,E⟩:=bO o cl oA;generalize fq o cl=r at*;go_wp2_with (at_builtin;refine aW _ rfl _ _ 75 rfl w.heap.size 131 i0 (.agg zQ) 4 32 Tryz.underlying75 hi t x y rfl oD _ _ _ rfl (n.alloc _) ⟨C.heap.size,0,none⟩ 1 1 [.int .i64 14,.int .i64 0,.int .i64 0,.int .i64 r] rfl rfl ?c1 (d6 _ _ _ _) ?c3 ?c4 ?c5 ?_)
    case c1=>exact eD _ _ _ _ _ _
    case c3=>unfold maxLen;omega
    case c4=>omega
    case c5=>have:=d.size;simp;omega
    intro z A g f _;have j:=hid ((bal d _).grown f (by have:=d.size;simp;omega) (fun k hk=>(n.lt k hk).1));have m:=hid g;go_wp2_with fail
    refine⟨⟨k+1,l++[(14,0,0,r)],oA,by go_num,by rw[av,s.out];rfl,dZ p (fo oA oA oA oA),?_,j.out⟩,by simp[intOf];omega⟩;rw[dA,av];exact m
   ·go_wp2_with fail
    refine (dK _ _ _ oA oA oA).mono ?_;rintro e w' ⟨rfl,rfl⟩;obtain⟨D,E⟩:=bO o cl oA;generalize fq o cl=r at*;go_wp2_with (at_builtin;refine aW _ rfl _ _ 75 rfl w.heap.size 131 i0 (.agg zQ) 4 32 Tryz.underlying75 hi t x y rfl oD _ _ _ rfl (n.alloc _) ⟨C.heap.size,0,none⟩ 1 1 [.int .i64 14,.int .i64 0,.int .i64 0,.int .i64 r] rfl rfl ?c1 (d6 _ _ _ _) ?c3 ?c4 ?c5 ?_)
    case c1=>exact eD _ _ _ _ _ _
    case c3=>unfold maxLen;omega
    case c4=>omega
    case c5=>have:=d.size;simp;omega
    intro z A g f _;have j:=hid ((bal d _).grown f (by have:=d.size;simp;omega) (fun k hk=>(n.lt k hk).1));have m:=hid g;go_wp2_with fail
    refine⟨⟨k+1,l++[(14,0,0,r)],oA,by go_num,by rw[av,s.out];rfl,dZ p (fo oA oA oA oA),?_,j.out⟩,by simp[intOf];omega⟩;rw[dA,av];exact m
   ·go_wp2_with fail
    refine (dK _ _ _ oA oA oA).mono ?_;rintro e w' ⟨rfl,rfl⟩;obtain⟨D,E⟩:=bO o cl oA;generalize fq o cl=r at*;go_wp2_with (at_builtin;refine aW _ rfl _ _ 75 rfl w.heap.size 131 i0 (.agg zQ) 4 32 Tryz.underlying75 hi t x y rfl oD _ _ _ rfl (n.alloc _) ⟨C.heap.size,0,none⟩ 1 1 [.int .i64 14,.int .i64 0,.int .i64 0,.int .i64 r] rfl rfl ?c1 (d6 _ _ _ _) ?c3 ?c4 ?c5 ?_)
    case c1=>exact eD _ _ _ _ _ _
    case c3=>unfold maxLen;omega
    case c4=>omega
    case c5=>have:=d.size;simp;omega
    intro z A g f _;have j:=hid ((bal d _).grown f (by have:=d.size;simp;omega) (fun k hk=>(n.lt k hk).1));have m:=hid g;go_wp2_with fail
    refine⟨⟨k+1,l++[(14,0,0,r)],oA,by go_num,by rw[av,s.out];rfl,dZ p (fo oA oA oA oA),?_,j.out⟩,by simp[intOf];omega⟩;rw[dA,av];exact m
   ·go_wp2_with fail
    refine (dK _ _ _ oA oA oA).mono ?_;rintro e w' ⟨rfl,rfl⟩;obtain⟨D,E⟩:=bO o cl oA;generalize fq o cl=r at*;go_wp2_with (at_builtin;refine aW _ rfl _ _ 75 rfl w.heap.size 131 i0 (.agg zQ) 4 32 Tryz.underlying75 hi t x y rfl oD _ _ _ rfl (n.alloc _) ⟨C.heap.size,0,none⟩ 1 1 [.int .i64 14,.int .i64 0,.int .i64 0,.int .i64 r] rfl rfl ?c1 (d6 _ _ _ _) ?c3 ?c4 ?c5 ?_)
    case c1=>exact eD _ _ _ _ _ _
    case c3=>unfold maxLen;omega
    case c4=>omega
    case c5=>have:=d.size;simp;omega
    intro z A g f _;have j:=hid ((bal d _).grown f (by have:=d.size;simp;omega) (fun k hk=>(n.lt k hk).1));have m:=hid g;go_wp2_with fail
    refine⟨⟨k+1,l++[(14,0,0,r)],oA,by go_num,by rw[av,s.out];rfl,dZ p (fo oA oA oA oA),?_,j.out⟩,by simp[intOf];omega⟩;rw[dA,av];exact m
  ·obtain rfl:k=15:=oA;go_wp2_with (at_builtin;refine aW _ rfl _ _ 75 rfl w.heap.size 131 i0 (.agg zQ) 4 32 Tryz.underlying75 hi t x y rfl oD _ _ _ rfl (G.alloc _) ⟨wr.heap.size,0,none⟩ 1 1 [.int .i64 12,.int .i64 0,.int .i64 0,.int .i64 0] rfl rfl ?c1 (d6 _ _ _ _) ?c3 ?c4 ?c5 ?_)
   case c1=>exact eD _ _ _ _ _ _
   case c3=>unfold maxLen;omega
   case c4=>omega
   case c5=>have:=F.size;simp;omega
   intro z A g f _;have j:=hid ((bal F _).grown f (by have:=F.size;simp;omega) (fun k hk=>(G.lt k hk).1));have m:A.ownsRow w.heap.size 131 4 z (l++[(12,0,0,0)]).length (iz (l++[(12,0,0,0)])):=by
    rw[dA,av];exact g
   obtain⟨b,cap,U,O,P⟩:=zq m oS;subst U;have M:=hid O;go_wp2_with fail
   go_ret
   exact⟨b,cap,l++[(12,0,0,0)],rfl,by rw[av,s.out];rfl,dZ p (fo oA oA oA oA),M.out,P,j.out⟩
