/- Uav -/
import Derived.Test.YtnccmdndkmmhcaaGreatDoorUau
set_option maxRecDepth 100000
set_option maxHeartbeats 16000000
namespace Go.Proofs.YtnccmdndkmmhcaaGreatDoor
namespace Wd
open Go.RowKit Mem Bw Nums Mmu
theorem uG {α:Type} {g:α->Nat}:∀(l:List α) (a:Nat),(∀j (b:j<l.length),j≠a->g l[j]=0)->ez g l=match l[a]? with|some x=>g x|none=>0
 |[],_,_=>by simp[ez]
 |x::l,0,h=>by
  have:=jO (g:=g) l (fun j b=>h (j+1) (by simp;omega) oA);unfold ez at this ⊢;rw[cd,ex,this];rfl
 |x::l,a+1,h=>by
  have c:=uG l a (fun j b e=>h (j+1) (by simp;omega) oA);have d:g x=0:=h 0 oS oA;unfold ez at c ⊢;rw[cd,ex,c,d,aC];rfl
theorem wa {x:Int}:∀{l:List Int},l.Nodup->x∈l->cn x l=1
 |z::l,hn,hx=>by
  rw[List.nodup_cons] at hn;rcases bK.1 hx with e|e
  ·have:=my (x:=x) (l:=l) (e▸hn.1);unfold cn ez at this ⊢;rw[cd,ex,this,one,ag e.symm]
  ·have:=wa hn.2 e;unfold cn ez at this ⊢;rw[cd,ex,this,one,ae (fun (y:z=x)=>hn.1 (y▸e))]
theorem n9 {ls:List (List Int)} {j:Nat} (h:j<ls.length):ls[j]=ls.getD j []:=by rw[aa,ac h];rfl
theorem oX {x:Int} {ls:List (List Int)} (h:∀a,x∉ls.getD a []):cna x ls=0:=jO ls fun j b=>my (by rw[n9 b];exact h j)
theorem we {x:Int} {ls:List (List Int)} {a:Nat} (c:x∈ls.getD a []) (g:(ls.getD a []).Nodup) (h:∀b,b≠a->x∉ls.getD b []):cna x ls=1:=by
 have d:a<ls.length:=by
  rcases cP a ls.length with y|y
  ·exact y
  ·rw[aa,aI y] at c;cases c
 unfold cna;rw[uG ls a fun j f e=>my (by rw[n9 f];exact h j e),ac d];show cn x ls[a]=1
 rw[n9 d];exact wa g c
theorem tV {cs:List Int} {j:Nat} (h:j<cs.length):cs[j]=cs.getD j (-1):=by rw[aa,ac h];rfl
theorem wg {n:Nat} {cs:List Int} (h:∀c,cs.getD c (-1)≠n):cn n cs=0:=my fun b=>by
 obtain⟨j,a,e⟩:=dC b;exact h j (by rw[<-tV a];exact e)
theorem GH {n:Nat} {cs:List Int} {c:Nat} (a:cs.getD c (-1)=n) (h:∀d,d≠c->cs.getD d (-1)≠n):cn n cs=1:=by
 have hl:c<cs.length:=by
  rcases cP c cs.length with y|y
  ·exact y
  ·rw[aa,aI y] at a;have:(-1:Int)=n:=a;omega
 unfold cn;rw[uG cs c fun j b e=>?_,ac hl]
 ·show one n cs[c]=1
  rw[tV hl,a];exact ag rfl
 ·rw[tV b];exact ae (h j e)
theorem Tk.b5 {p:PW} (x:Tk Nbd p):∀k (hk:k<p.II.length),DO p k p.II[k]=false:=fun n hk=>by
 rw[Aw hk];unfold DO btB;by_cases r:p.k n=6
 ·rw[ag r];have ok:=x.a.ok n r;have w:=x.q.wp r id;have K:=Dg fun k hk=>by have:=ok k oA;unfold fOk at this;rwa [ag oA] at this
  have H:nfB p (p.t n)=true:=by
   unfold nfB;rw[K,show wB (p.t n 8)=true from ok 8 oD,show wB (p.t n 15)=true from ok 15 oD,show wB (p.t n 16)=true from ok 16 oD,show ek 0 6 (p.t n 9)=true from ok 9 oD,show ek 0 3 (p.t n 10)=true from ok 10 oD,show ek 0 ((p.IJ.length:Int) - 1) (p.t n 18)=true from ok 18 oD,show ek 0 3 (p.t n 19)=true from ok 19 oD];rfl
  have E:p.t n 17= -1∨∃u:Nat,p.t n 17=u∧p.k u=6∧u<p.II.length∧p.t u 9=5∧p.t n 9≠4:=(x.o.ow n).elim .inl fun ⟨u,a,b,c⟩=>by
   have s:=dg fun e=>by rw[x.a.no u e 9 oD] at b;cases b
   exact .inr ⟨u,a,s,x.tl s,b,c⟩
  have G:ffB p (p.t n)=true:=by
   unfold ffB;rw[show fB p (p.t n 11) 5=true from ok 11 oD,show fB p (p.t n 12) 4=true from ok 12 oD,show fB p (p.t n 13) 7=true from ok 13 oD];show fB p (p.t n 17) 6=true
   unfold fB;rcases E with e|⟨u,e,s,hl,_⟩
   ·rw[e];rfl
   ·rw[e,lg (iN oA),s];simp
  have C:dbB p n (p.t n)=true:=by
   have I:owB p (p.t n)=true:=by
    unfold owB;rcases E with e|⟨u,e,s,hl,i,F⟩
    ·rw[e];rfl
    ·rw[e,yx hl,Aw hl,i,bne_iff_ne.2 F];simp
   unfold dbB;rw[I];by_cases i:p.t n 9=5
   ·rw[ag i];obtain⟨m,v⟩:=x.o.ak n i;have D:m<p.II.length:=by
     rcases cP m p.II.length with y|y
     ·exact y
     ·have:p.t m=bl:=by show p.II.getD m bl=bl;rw[aa,aI y];rfl
      rw[this] at v;have:(-1:Int)=n:=v;omega
    rw[uG p.II m fun j z e=>?_,ac D]
    ·show (true&&((ow (n:Int) p.II[m]:Nat):Int)==1)=true
     rw[Aw D,ow,ag v];rfl
    ·rw[Aw z];exact ae fun g=>e (x.o.ij j m n g v)
   ·rw[ae i,jO p.II fun j z=>?_]
    ·rfl
    ·rw[Aw z];refine ae fun g=>i ?_;rcases x.o.ow j with e|⟨u,e,h,_⟩
     ·omega
     ·rwa [show n=u by omega]
  have L:srB p n (p.t n)=true:=by
   unfold srB;by_cases f:pl (p.t n 9)=0
   ·rw[ag f,w.a1 f,oX fun a e=>(w.ln a e).1 f];rfl
   ·rw[ae f];obtain⟨a,e1,e2,A⟩:=w.la f;have M:p.k a≠0:=by rw[e2];exact f
    rw[e1,lg (iN M),e2,ah,we A (x.q.lu a) (fun b B e=>by have:=(w.ln b e).2;omega),show cn n (p.lines.getD a [])=1 from wa (x.q.lu a) A];simp
  have J:rrB p n (p.t n)=true:=by
   unfold rrB;by_cases l:p.t n 9=1
   ·rw[ag l];rcases w.rq l with e|e
    ·rw[wg fun c g=>(w.cr c g).2.2 e,we e (x.q.ru _) (fun b B g=>B (w.rd b g).2.symm)];rfl
    ·rw[GH e (fun d C g=>by have:=(w.cr d g).2.1;omega),oX fun a g=>(w.cr _ e).2.2 (by rw[(w.rd a g).2];exact g)];rfl
   ·rw[ae l,wg fun c g=>l (w.cr c g).1,oX fun a g=>l (w.rd a g).1];rfl
  rw[H,G,C,L,J];rfl
 ·rw[ae r,mo.2 (x.a.no n r)];rfl
theorem Tk.b6 {p:PW} (x:Tk Nbd p):∀k (hk:k<p.lines.length),Eb p k p.lines[k]=false:=fun k hk=>by
 have F:k<p.kinds.length:=by rw[<-x.lf.lines];exact hk
 have e:p.lines[k]=p.li k:=n9 hk;rw[e];have r:∀z,z∈p.li k->∃n:Nat,z=n∧p.k n=6∧n<p.kinds.length∧n<p.II.length∧p.t n 14=k∧p.k k=pl (p.t n 9)∧pl (p.t n 9)≠0:=fun z c=>by
  obtain⟨n,e1,j,d,b,o⟩:=x.q.ln k z c;obtain⟨a,u,f,_⟩:=x.q.la n d j b;obtain rfl:a=k:=oA;exact⟨n,e1,d,iN oA,x.tl d,o,f,b⟩
 have E:∀s,pl s≠0->pl s=7∨pl s=8:=fun s h=>by
  unfold pl at h ⊢;split
  ·exact .inl rfl
  ·split
   ·exact .inr rfl
   ·simp_all
 unfold Eb blB;have hh:hdB (p.kinds.getD k 0) (p.bits.getD k 0) (p.li k).length=false:=by
  unfold hdB;rw[eG];constructor
  ·cases hl:p.li k with
   |nil=>rfl
   |cons z l=>
    obtain⟨n,_,_,_,_,_,B,C⟩:=r z (by rw[hl];exact cD ..);have:p.kinds.getD k 0=pl (p.t n 9):=B;rw[this];rcases E _ C with g|g<;>rw[g]<;>simp
  ·rcases x.q.bt k with g|⟨u,f,i⟩
   ·rw[show p.bits.getD k 0=0 from g];rfl
   ·rw[show p.kinds.getD k 0=8 from u,f,show wB (p.bits.getD k 0)=true from az i];simp
 rw[hh,eU,bO];intro z c;obtain⟨n,rfl,j,d,b,o,_⟩:=r z c;have A:∀m:Nat,m<p.II.length->wtB p m=(p.t m 9==4):=fun m v=>by
  unfold wtB;rw[ah,ac v,Aw v]
 have D:wtB p (n:Int)=wtB p ((p.li k).getD 0 0):=by
  cases hl:p.li k with
  |nil=>rw[hl] at c;cases c
  |cons y l=>
   have w:y∈p.li k:=by rw[hl];exact cD ..
   obtain⟨m,rfl,_,_,i,_⟩:=r y w;show wtB p n=wtB p m
   rw[A n b,A m i];have:=x.q.lw k n m c w;rw[cY,bz,bz];exact this
 unfold tB;rw[lg d,j,D,show atV p (n:Int)=k by unfold atV;rw[ah,ac b,Aw b];exact o];simp
theorem Tk.Kl {p:PW} (x:Tk Nbd p) {n:Nat} (a:p.k n=6) (d:p.t n 9=1) (c:Int) (e:p.t n 18=c):rdB p n c=true:=by
 have b:=x.tl a;unfold Wd.rdB;rw[lg (iN oA),a,ah,ac b,Aw b];simp[d,e]
theorem Tk.b7 {p:PW} (x:Tk Nbd p):∀k (hk:k<p.IJ.length),Ec p k p.IJ[k]=false:=fun k hk=>by
 rw[tV hk];unfold Ec bcB;rcases x.q.cr k with g|⟨n,a,_,b,c,d,_⟩
 ·rw[show p.IJ.getD k (-1)= -1 from g];rfl
 ·rw[show p.IJ.getD k (-1)=n from a,x.Kl b c k d];simp
theorem Tk.b8 {p:PW} (x:Tk Nbd p):∀k (hk:k<p.ready.length),Ed p k p.ready[k]=false:=fun k hk=>by
 rw[n9 hk];unfold Ed brB;rw[bO];intro z e;obtain⟨n,rfl,_,a,c,d⟩:=x.q.rd k z e;have b:=x.tl a;have g:=x.num a;have f:(p.t n 18*4+p.t n 10).toNat=k:=d;unfold rpB;rw[x.Kl a c ((k:Int)/4) oA,ah,ac b,Aw b];have:p.t n 10=(k:Int)%4:=oA;simp[this]
structure TlO (p:PW) (l:List Ent):Prop where
 n:l.length<=4
 t:∀e∈l,d7 p e=true
 d:l.Pairwise fun a e=>pg e.1 e.2.1 a=false
theorem TlO.bm {p:PW} {l:List Ent} (h:TlO p l):bmB p l=false:=by
 unfold bmB;rw[aw (by have:=h.n;omega),eU,bO];intro j b;have b:=List.mem_range.1 b;rw[ac b];show ¬emB p l j l[j]=true
 unfold emB;rw[h.t _ (av b)];have:(l.take j).any (pg l[j].1 l[j].2.1)=false:=by
  rw[bO];intro a c;obtain⟨i,hi,rfl⟩:=dC c;rw[bH] at hi;rw[List.getElem_take,List.pairwise_iff_getElem.1 h.d i j oA b oA]
  decide
 rw[this]
 decide
structure Lw (p:PW):Prop where
 m:Md (fun _=>False) p
 tl:∀l∈p.IK,TlO p l
 tm:0<=p.time
theorem Lw.snd {p:PW} (h:Lw p) (i:p.time<=1000000):p4 p=true:=by
 obtain⟨r,j⟩:=h.m.keys;have hk:=j.keys h.m.op;have hl:=h.m.tk.lf;have x:=h.m.tk;have lf:lfB p=true:=Fg (by have:=hl.k1;omega) (by have:=hl.k2;omega) (by have:=hl.c1;omega) (by have:=hl.c2;omega) (by have:=hl.d1;omega) (by have:=hl.d2;omega) (by have:=hl.IL;omega) (by have:=hl.IH;omega) (by have:=hl.II;omega) (by have:=hl.lines;omega) (by have:=hl.bits;omega) (by have:=hl.ready;omega) (by have:=hl.IK;omega);have a0:lk (DZ p) p.IL=none:=eW (fun k hk=>by unfold DZ nwB wB;rw[az (h.m.IL.w _ (av hk))];rfl);have a1:lk (D3 p) p.kinds=none:=eW (fun k hk=>by
  obtain⟨d,f,g⟩:=h.m.ks _ (av hk);unfold D3 nkB;rw[az ⟨d,f⟩,beq_eq_false_iff_ne.2 g];rfl)
 have b:lk (D6 p) p.IQ=none:=eW (fun k hk=>by unfold D6 nd;rw[az (h.m.ds _ (av hk))];rfl);have c:lk (Gb p) p.IL=none:=eW (fun k hk=>by
  have:=h.m.IL.e k hk;rw[aa,ac hk] at this;exact this)
 have a:lk (y9 p) p.IK=none:=eW (fun k hk=>(h.tl _ (av hk)).bm);unfold p4 wmA;rw[lf,show ek 0 1000000 p.time=true from az ⟨h.tm,i⟩,Bool.and_self,ag rfl,pA,a0,a1,b,eW hk.b3,eW hk.b4,eW x.b5,eW x.b6,eW x.b7,eW x.b8,c,a];rfl
theorem jl {p:PW} {i:Nat} (h:i<p.IH.length):p.IH.getD i ft=p.s i:=by
 show _=p.IH.getD i eS
 rw[aa,aa,ac h];rfl
theorem wX {p:PW} {a:Int} (h:fh p a=0):∃n:Nat,a=n∧n<p.IH.length∧p.s n 0≠0:=by
 unfold fh at h;split at h
 ·rename_i h1;have:=aA h1;obtain⟨n,rfl⟩:∃n:Nat,a=n:=⟨a.toNat,oA⟩
  have b:n<p.IH.length:=oA;rw[ah,jl b] at h;split at h
  ·cases h
  ·exact⟨n,rfl,b,by assumption⟩
 ·cases h
theorem Ic {p:PW} {a:Int} (h:opE p a=0):∃n:Nat,a=n∧n<p.IH.length∧p.s n 0=0∧p.k (n/16)=5:=by
 unfold opE at h;split at h
 ·rename_i h1;have:=aA h1;obtain⟨n,rfl⟩:∃n:Nat,a=n:=⟨a.toNat,oA⟩
  have b:n<p.IH.length:=oA;rw[ah,jl b] at h;split at h
  ·split at h
   ·exact⟨n,rfl,b,by assumption,by assumption⟩
   ·cases h
  ·cases h
 ·cases h
theorem rT {p q:PW} (B:kR p) (lf:LF p) (o:∀f:Nat,p.k f=4->isB q f 4=true) (j:q.IL.length=p.IL.length) (l:∀i,p.k (i/16)=3∨p.k (i/16)=4->p.IL.getD i 0≠0->q.IL.getD i 0=p.IL.getD i 0) {e:Ent} (h:d7 p e=true):d7 q e=true:=by
 unfold d7 at h ⊢;simp only[am,bz,bg] at h ⊢;obtain⟨⟨u,v⟩,⟨b,w⟩,x⟩:=h;obtain⟨s,g,D,c⟩:=fE u;have C:en q.IL e.1 (e.2.1*16)=en p.IL e.1 (e.2.1*16):=by
  rw[g] at b ⊢;generalize G:e.2.1*16=a at*;unfold en at b ⊢;rw[j];by_cases c1:¬inb p.IL.length s a
  ·rw[ag c1] at b;cases b
  rw[ae c1] at b ⊢;rw[ae c1];have A:n16 q.IL=n16 p.IL:=by unfold n16;rw[j]
  rw[A];by_cases c2:¬isE (e1 p.IL s a) (n16 p.IL)
  ·rw[ag c2] at b;cases b
  rw[ae c2] at b;by_cases d:¬isE (e2 p.IL (e1 p.IL s a%1024) a) (n16 p.IL)
  ·rw[ag d] at b;cases b
  have F:0<=a∧a/256<=15:=oA;have z0:¬isE 0 (n16 p.IL):=by unfold isE;omega
  have x1:e1 q.IL s a=e1 p.IL s a:=by
   unfold e1;refine l _ (.inr ?_) fun y=>c2 ?_
   ·rw[show ((s:Int)*16+a/256).toNat/16=s by omega];exact c
   ·unfold e1;rw[y];exact z0
  rw[x1];have x2:e2 q.IL (e1 p.IL s a%1024) a=e2 p.IL (e1 p.IL s a%1024) a:=by
   have z:((s:Int)*16+a/256).toNat<p.IL.length:=by have:=lf.IL;omega
   have b1:=(fY.1 (B.e _ z)).1 (by rw[show ((s:Int)*16+a/256).toNat/16=s by omega];exact c);have n0:e1 p.IL s a≠0:=fun y=>c2 (by rw[y];exact z0);obtain⟨t,m,E,r⟩:=fE (b1.resolve_left n0);have m:e1 p.IL s a - 32768=t:=m;have k2:=lf.k2;have n:e1 p.IL s a%1024=t:=oA;unfold e2;rw[n];refine l _ (.inl ?_) fun y=>d ?_
   ·rw[show ((t:Int)*16+a/16%16).toNat/16=t by omega];exact r
   ·unfold e2;rw[n,y];exact z0
  rw[x2]
 rw[C];exact⟨⟨by rw[g];exact o s c,v⟩,⟨b,w⟩,x⟩
theorem TlO.Js {p q:PW} {l:List Ent} (h:TlO p l) (b:∀e,d7 p e=true->d7 q e=true):TlO q l:=⟨h.n,fun e a=>b e (h.t e a),h.d⟩
theorem TlO.filter {p q:PW} {l:List Ent} (h:TlO p l) {g:Ent->Bool} (b:∀e∈l,g e=true->d7 q e=true):TlO q (l.filter g):=
 ⟨aB (cW _ _) h.n,fun e a=>b e (List.mem_filter.1 a).1 (List.mem_filter.1 a).2,h.d.filter _⟩
theorem Lw.IH {p:PW} (h:Lw p) {S:List (Nat->Int)} (hl:S.length=p.IH.length) (hk:∃r,Ky (fun _=>False) {p with IH:=S} r) (c:Op {p with IH:=S}):Lw {p with IH:=S}:=
 ⟨⟨h.m.ks,h.m.ds,hk,c,⟨h.m.IL.w,h.m.IL.e⟩,h.m.tk.same (h.m.tk.lf.of (e5:=hl))⟩,fun l b=>(h.tl l b).Js fun e a=>(iL (p:=p) (q:={p with IH:=S}) rfl rfl e).trans a,h.tm⟩
theorem Lw.move {p:PW} (h:Lw p) {a b:Int} (c:boE p a b=0):Lw (mvP p a b):=by
 unfold boE at c;by_cases d:fh p a=0
 ·rw[ag d] at c;obtain⟨a,rfl,_,e⟩:=wX d;obtain⟨b,rfl,g,i,f⟩:=Ic c;obtain⟨r,j⟩:=h.m.keys;obtain⟨k1,k2⟩:=j.move e g i f h.m.op;exact h.IH (by unfold hnd;simp) ⟨_,k1⟩ k2
 ·rw[ae d] at c;exact absurd c d
theorem Lw.add {p:PW} (h:Lw p) {b:Nat} (l:b<p.IH.length) (j:p.s b 0=0) (g:p.k (b/16)=5) {f:Nat->Int} (q:f 0≠0) (hk:vN p f)
  (v:f 6= -1∨∃u:Nat,f 6=u∧u<p.IH.length∧p.s u 0≠0∧cmB (p.s u) f=true)
  (o:f 0=1->∀n:Nat,clI n f=true->p.k n=0∧∀i,clI n (p.s i)=false)
  (t:f 0≠1->f 6= -1->∀c,clI (f 1) (p.s c)=false):Lw {p with IH:=p.IH.set b f}:=by
 obtain⟨r,w⟩:=h.m.keys;obtain⟨x,k⟩:=(w.keys h.m.op).add l j g q hk v o t;exact h.IH oS ⟨x,k.em,fun i hi=>.inl (k.nd i hi),k.key,fun i=>(k.up i).elim .inl fun ⟨u,a,_,c,d,e⟩=>.inr ⟨u,a,c,d,e⟩,k.one,k.us,k.gp⟩ fun n g=>by obtain⟨i,_,e⟩:=k.op n g;exact⟨i,e⟩
theorem Lw.copy {p:PW} (h:Lw p) {n m:Nat} {r g:Int} {f:Nat->Int} (q:p.s n 0≠0) (w:p.s n 0≠1) (y:m<p.IH.length) (z:p.s m 0=0) (A:p.k (m/16)=5) (B:0<=r∧r<=7) (E:0<=g∧g<=65535) (D:g=0∨(p.s n 0=7∨p.s n 0=8)∧p.s n 5=0)
  (a:f 0=p.s n 0) (i:f 1=p.s n 1) (j:f 2=p.s n 2) (u:f 3=p.s n 3) (f4:f 4=bits .and .i64 (p.s n 4) r) (v:f 5=if g=0 then p.s n 5 else g) (x:f 6=n):Lw {p with IH:=p.IH.set m f}:=by
 obtain⟨rk,C⟩:=h.m.keys;have ks:=C.key n q;have d:=mS ks.c q;have t:=DW d.r B;have k1:KIn f:=⟨by rw[a];exact d.k,by rw[i];exact d.b,by rw[j];exact d.l,by rw[i,j];exact d.bl,by rw[a,j,u];exact d.m,by rw[a,j,u];exact d.o,by rw[f4];exact t.2,by
  rw[a,v];have:=d.g;split<;>omega⟩
 refine h.add y z A (by rw[a];exact q) ⟨zL k1,by rw[i,j];exact ks.le,by rw[a,i];exact ks.is⟩ (.inr ⟨n,x,rY q,q,?_⟩) (fun e=>absurd (a▸e) w) (fun _ e=>oA);rw[kA w,a,i,f4,v];refine⟨rfl,rfl,t.1,?_⟩;split
 ·exact .inr rfl
 ·omega
theorem Md.IK {D:Nat->Prop} {p:PW} (h:Md D p) {X:List (List Ent)} (hl:X.length=p.IK.length):Md D {p with IK:=X}:=by
 obtain⟨r,a⟩:=h.keys;exact⟨h.ks,h.ds,⟨r,a.to rfl rfl⟩,h.op,⟨h.IL.w,h.IL.e⟩,h.tk.same (h.tk.lf.of (e10:=hl))⟩
theorem Md.Kk {p q:PW} (h:Lw p) (m:Md (fun _=>False) q) (e:q.IK=p.IK) (et:q.time=p.time):Lw (fgt q):=by
 refine⟨m.IK oS,fun l hl=>?_,by show 0<=q.time;rw[et];exact h.tm⟩;obtain⟨l0,a,rfl⟩:=List.mem_map.1 (show l∈q.IK.map _ from hl);rw[e] at a;refine (h.tl l0 a).filter fun x _ b=>?_;exact (iL (p:=q) (q:=Wd.fgt q) rfl rfl x).trans (by simpa using b)
theorem mC:∀(m:Nat) (p:PW) (s:Nat),(drF m p s).time=p.time
 |0,_,_=>rfl
 |m+1,p,s=>by
  have da:∀f a q,(daF (drF m) f a q).time=q.time:=fun f a=>by
   induction a with
   |zero=>intro q;rw[gB]
   |succ a ih=>
    intro q;rw[gA];split
    ·exact ih q
    ·rw[ih,mC m q]
  have et:∀q t,(etP q t).time=q.time:=fun q t=>by unfold etP;split<;>rfl
  have ds:∀q t,(dsP q t).time=q.time:=fun q t=>by
   show ((q.lines.getD t []).foldl ds1 q).time=_
   rw[fT]
  unfold drF;split
  ·rfl
  ·unfold lsF;split
   ·rfl
   split
   ·rfl
   split
   ·rw[da];rfl
   split
   ·rw[et];rfl
   ·exact ds (nkP (drA p s) _) _
theorem Lw.drop {p:PW} (h:Lw p) (a:Int):Lw (dkP p a):=by
 unfold dkP;split
 ·rename_i e;obtain⟨n,rfl,_,b⟩:=wX e.2;rw[ah];exact Md.Kk h (h.m.drop (nds p+1) p n (dM _) b).1 (jX _ p n) (mC _ p n)
 ·exact h
theorem Md.rv {m t:Nat}:∀(n:Nat) (p:PW),Md (fun _=>False) p->nds p<m->Md (fun _=>False) (rvN (drF m) t n p)∧(rvN (drF m) t n p).IK=p.IK∧(rvN (drF m) t n p).time=p.time
 |0,_,h,_=>⟨h,rfl,rfl⟩
 |n+1,p,h,hn=>by
  obtain⟨r,g⟩:=h.keys;rcases iB p.IH t p.IH.length with ⟨-,e⟩|⟨-,j, -,e, -, -⟩
  ·rw[jv e];exact⟨h,rfl,rfl⟩
  ·obtain⟨_,d⟩:=sM g.Kh e;obtain⟨f,i⟩:=h.drop m p j hn d;obtain⟨a,b,c⟩:=Md.rv (m:=m) (t:=t) n (drF m p j) f oA;rw[rG e];exact⟨a,b.trans (jX m p j),c.trans (mC m p j)⟩
theorem Lw.Ju {p:PW} (h:Lw p) (a:Int):Lw (j6 p a):=by
 unfold j6;split
 ·obtain⟨m,t,s⟩:=Md.rv (t:=a.toNat) (neS p.IH) p h.m (dM (nds p));exact Md.Kk h m t s
 ·exact h
def tnV (p:PW):Int:=p.IQ.getD ((p.time/4)%(p.IQ.length:Int)).toNat 0
def dmB (p:PW) (m x:Int):Bool:=p.II.getD x.toNat bl 19==m
theorem GX {α:Type} {f:α->Bool} {l:List α} (h:0<=ixP f l):∃i:Nat,ixP f l=i∧i<l.length:=by
 unfold ixP at h ⊢;by_cases a:l.findIdx f<l.length
 ·rw[ag a];exact⟨_,rfl,a⟩
 ·rw[ae a] at h;omega
theorem C5 {ls:List (List Int)} {k:Nat} {x:Int} {n:Nat} (h:∀l∈ls,l.length<=n):∀l∈ls.set k (ls.getD k []++[x]),l.length<=n+1:=fun l hl=>by
 rcases aZ hl with a|a
 ·exact aB (h l a) (Nat.le_succ _)
 ·rw[a,ax,aa]
  cases e:ls[k]? with
  |none=>simp
  |some l0=>exact Nat.succ_le_succ (h l0 (ef e))
theorem rS {p:PW} (h:p.Fits) (t k:Nat) (x:Int):(p.task t k x).Fits:=⟨h.IL,h.kinds,h.IH,by rw[ap];exact h.II,h.lines,h.line,h.bits,h.IJ,h.ready,h.next,h.IK,h.IQ⟩
theorem AH {p:PW} (h:p.Fits) (a:∀l∈p.ready,l.length<=50) (t n:Nat):(wnP p t n).Fits:=
 ⟨h.IL,h.kinds,h.IH,(rS (rS h t 9 1) t 14 (-1)).II,h.lines,h.line,h.bits,h.IJ,by show (p.ready.set n _).length<=1000;rw[au];exact h.ready,fun l hl=>aB (C5 a l hl) oA,h.IK,h.IQ⟩
theorem cb.IY {W:World} {wb:Nat} {tag:Nat->Nat} {V:Nat->Value} {p:PW} (h:cb W wb tag V p) {g cap:Nat} (e:V 6=.slice (some ⟨g,0,none⟩) p.IJ.length cap) {i:Nat} (hi:i<p.IJ.length):W.cell? ⟨g,i,none⟩=some (.int .i64 (p.IJ.getD i (-1)))∧W.frozen? ⟨g,i,none⟩=false:=by
 have a:=h.o.IJ;rw[e] at a;exact⟨by rw[a.int hi,aa,ac hi,aT],a.frozen i⟩
theorem De {p:PW} (h:Snd p):∀l∈p.ready,∀z∈l,0<=z∧z<(p.II.length:Int):=by
 intro l hl z i;obtain⟨n,g,rfl⟩:=List.mem_iff_getElem.1 hl;have b:brB p n p.ready[n]=false:=h.b8 n g;unfold brB at b;rw[bO] at b;have e:=b z i;have c:rpB p z ((n:Int)/4) ((n:Int)%4)=true:=by simpa using e
 unfold rpB rdB at c;rw[am,am] at c;have a:=c.1.1;unfold isB fH at a;by_cases d:0<=z
 ·rw[ag d] at a;have f:=eq_of_beq a;obtain⟨j,_⟩:=List.getElem?_eq_some_iff.1 f;rw[h.lf.II];omega
 ·rw[ae d] at a
  cases a
theorem lx (wb:Nat) (tag:Nat->Nat) (V:Nat->Value) (p:PW) (W:World) (bt:cb W wb tag V p) (f:p.Fits) (A:1<=p.IQ.length) (B:0<=p.time∧p.time<=1000000):
  Calls Tryz.prog 177 #[.pointer (some ⟨wb,0,none⟩)] W fun r e=>r=.returned (.int .i64 (tnV p))∧∃n,e=W.drewN n:=by
 have k:=bD bt bt.o.time;obtain⟨q,m,e9⟩:=bt.o.IQ.form oA;have l:=bD bt e9;have b:=bt.o.IQ;rw[e9] at b;have v:(p.IQ.length:Int)<=1000:=by have:=f.IQ;omega
 have z:(p.time).tdiv 4=p.time/4:=bR oA;have g:(p.time/4).tmod (p.IQ.length:Int)=(p.time/4)%(p.IQ.length:Int):=cZ oA;have w:0<=(p.time/4)%(p.IQ.length:Int):=Int.emod_nonneg _ oA;have x:(p.time/4)%(p.IQ.length:Int)<(p.IQ.length:Int):=Int.emod_lt_of_pos _ oA;obtain⟨j,c⟩:∃j:Nat,(p.time/4)%(p.IQ.length:Int)=j:=⟨((p.time/4)%(p.IQ.length:Int)).toNat,oA⟩
 have d:j<p.IQ.length:=oA;have u:(j:Int)<(p.IQ.length:Int):=oA;have h:=b.int d;have a:=hid (show tnV p=p.IQ[j] by unfold tnV;rw[c,ah,aa,ac d,aT]);generalize p.IQ[j]=y at h a;rw[c] at g;have D:((p.IQ.length:Int)==0)=false:=by simpa using show ¬((p.IQ.length:Int)=0) by omega
 have E:¬((p.IQ.length:Int)=0):=oA;have s:0<=p.time/4:=oA;have t:p.time/4<=250000:=oA;generalize p.time/4=F at*;go_enter Tryz.func177,Tryz.ntmps177
 go_upto_region 1 with fail
 go_quiet (fail)
 have BS:=hid (show ∃n,W.drewN nq=W.drewN n from⟨nq,rfl⟩);generalize C:W.drewN nq=i at BS ⊢;go_wp2_with fail
 go_ret
 exact⟨by rw[a.out];rfl,BS.out⟩
theorem yW {w:World} {base:Nat} {v:Value} {zs:List Int} (l:w.ownsRow base 3 1 v zs.length (dU zs)) (h:base<=w.heap.size) (hl:zs.length<=1000) {b o c:Nat} {ys:List Int} (B:ys.length<=1000) (s:∀j (a:j<ys.length),w.cell? ⟨b,o+j,none⟩=some (.int .i64 ys[j])):
  ∃q d w',(Builtin.append_ #[22,22] 22 #[v,.slice (some ⟨b,o,none⟩) ys.length c]).run Tryz.prog w=.ok (.slice q (zs.length+ys.length) d) w'∧w'.ownsRow base 3 1 (.slice q (zs.length+ys.length) d) (zs++ys).length (dU (zs++ys))∧Below base w w':=by
 obtain⟨i,hi,A,u,z⟩:=fj kD;obtain⟨C,w',t,g,p,_⟩:=run_append_own (P:=Tryz.prog) w base 22 22 3 i (.int .i64 0) 1 8 Tryz.underlying22 hi A u z rfl oD v zs.length (dU zs) l ⟨b,o,none⟩ ys.length c (dU ys) (by unfold dU;simp) (fun j v a=>by
  unfold dU at a;rw[db] at a
  cases e:ys[j]? with
  |none=>rw[e] at a;cases a
  |some y=>
   rw[e] at a
   cases a
   obtain⟨n,r⟩:=List.getElem?_eq_some_iff.1 e;have:=s j n;rw[r] at this;by_cases f:j=0
   ·subst f;simpa [Addr.add] using this
   ·simpa [Addr.add,f] using this) (fun x m=>by
  unfold dU at m;obtain⟨y,_,rfl⟩:=List.mem_map.1 m;rfl) (by unfold maxLen;omega) oA h
 obtain⟨q,cap,rfl⟩:=eJ g;have e:dU zs++dU ys=dU (zs++ys):=by unfold dU;simp
 exact⟨q,cap,w',t,by rw[<-e,ax];exact g,(af base w).grown p h (fun k hk=>(l.lt k hk).1)⟩
def rnx (q:PW) (m:Int) (c:Nat):Nat->PW
 |0=>q
 |k+1=>if 0<=ixP (dmB q m) (q.ready.getD (c*4+k) []) then {q with IJ:=q.IJ.set c ((q.ready.getD (c*4+k) []).getD (ixP (dmB q m) (q.ready.getD (c*4+k) [])).toNat 0),ready:=q.ready.set (c*4+k) ((q.ready.getD (c*4+k) []).take (ixP (dmB q m) (q.ready.getD (c*4+k) [])).toNat++(q.ready.getD (c*4+k) []).drop ((ixP (dmB q m) (q.ready.getD (c*4+k) [])).toNat+1))} else rnx q m c k
def rlP (p:PW) (c:Nat):PW:=if p.IJ.getD c (-1)= -1 then rnx p (tnV p) c 4 else if dmB p (tnV p) (p.IJ.getD c (-1)) then p else rnx (wnP {p with IJ:=p.IJ.set c (-1)} (p.IJ.getD c (-1)).toNat (rdN p (p.IJ.getD c (-1)).toNat)) (tnV p) c 4
structure Rs (p q:PW):Prop where
 k:q.kinds=p.kinds
 s:q.IH=p.IH
 r:q.IL=p.IL
 l:q.IK=p.IK
 d:q.IQ=p.IQ
 t:q.time=p.time
theorem Rs.refl (p:PW):Rs p p:=⟨rfl,rfl,rfl,rfl,rfl,rfl⟩
theorem _root_.Go.Proofs.YtnccmdndkmmhcaaGreatDoor.dR:type_of% @Rs.refl:= @Rs.refl
theorem Rs.task {p q:PW} (h:Rs p q) (t k:Nat) (x:Int):Rs p (q.task t k x):=⟨h.k,h.s,h.r,h.l,h.d,h.t⟩
theorem Rs.wn {p q:PW} (h:Rs p q) (t n:Nat):Rs p (wnP q t n):=⟨h.k,h.s,h.r,h.l,h.d,h.t⟩
theorem Rs.ls {p q:PW} (h:Rs p q) {L R:List (List Int)} {B C:List Int}:Rs p {q with lines:=L,bits:=B,IJ:=C,ready:=R}:=⟨h.k,h.s,h.r,h.l,h.d,h.t⟩
theorem Rs.trans {p q r:PW} (h:Rs p q) (g:Rs q r):Rs p r:=⟨g.k.trans h.k,g.s.trans h.s,g.r.trans h.r,g.l.trans h.l,g.d.trans h.d,g.t.trans h.t⟩
theorem Lw.tk {p q:PW} (h:Lw p) (x:Tk Nbd q) (e:Rs p q):Lw q:=by
 obtain⟨e1,e2,b,e4,e5,e6⟩:=e;obtain⟨r,j⟩:=h.m.keys;refine⟨⟨by rw[e1];exact h.m.ks,by rw[e5];exact h.m.ds,⟨r,j.to e1 e2⟩,fun n f=>?_,⟨by rw[b];exact h.m.IL.w,fun i hi=>?_⟩,x⟩,fun l hl=>?_,by rw[e6];exact h.tm⟩
 ·obtain⟨i,hi⟩:=h.m.op n (by show p.kinds.getD n 0≠0;rw[<-e1];exact f);exact⟨i,by show opn n (q.IH.getD i eS)=true;rw[e2];exact hi⟩
 ·rw[b] at hi;have g:=fY.1 (h.m.IL.e i hi);have c:∀a k,isB q a k=isB p a k:=fun a k=>by unfold isB fH;rw[e1]
  rw[show q.k (i/16)=p.k (i/16) by show q.kinds.getD _ 0=_;rw[e1],b];refine fY.2 ?_;rw[c,c,c];exact g
 ·rw[e4] at hl;exact (h.tl l hl).Js fun e d=>(iL b e1 e).trans d
theorem BW {l:List Int} (d:l.Nodup) {i:Nat} (hi:i<l.length):(∀z,z∈l.take i++l.drop (i+1)↔z∈l∧z≠l[i])∧(l.take i++l.drop (i+1)).Nodup:=by
 have e:l=l.take i++l[i]::l.drop (i+1):=by rw[<-List.drop_eq_getElem_cons hi,List.take_append_drop]
 have b:=d;rw[e,List.nodup_append,List.nodup_cons] at b;obtain⟨a,⟨b1,b2⟩,c⟩:=b;refine⟨fun z=>?_,?_⟩
 ·have m:z∈l↔z∈l.take i∨z=l[i]∨z∈l.drop (i+1):=by
   conv=>lhs;rw[e]
   rw[dH,bK]
  rw[dH,m];constructor
  ·rintro (y|y)
   ·exact⟨.inl y,fun g=>c z y _ (cD ..) g⟩
   ·exact⟨.inr (.inr y),fun g=>b1 (g▸y)⟩
  ·rintro⟨y|y|y,g⟩
   ·exact .inl y
   ·exact absurd y g
   ·exact .inr y
 ·rw[List.nodup_append];exact⟨a,b2,fun x f y h=>c x f y (List.mem_cons_of_mem _ h)⟩
theorem Tk.Kf {q:PW} (x:Tk Nbd q) {m:Int} {c:Nat} (d:c<q.IJ.length) (b:q.co c= -1):∀k,k<=4->Tk Nbd (rnx q m c k)
 |0,_=>x
 |k+1,hk=>by
  unfold Wd.rnx;split
  ·rename_i h;obtain⟨i,e,hi⟩:=GX h;rw[e,ah];have j:=av hi;obtain⟨t,et,_,n,o,f⟩:=x.q.rd _ _ j;have g:(t:Int)∈q.re (c*4+k):=by rw[<-et];exact j
   have a:=BW (x.q.ru (c*4+k)) hi;have y:=x.q.Kg g (fun z=>by rw[<-et];exact a.1 z) a.2;have p:=x.num n;have f:(q.t t 18*4+q.t t 10).toNat=c*4+k:=f;have z:=y.core (c:=c) o (x.q.inr g).2.2.2.2.1 (by show q.t t 18=c;omega) d b;have l:(q.ready.getD (c*4+k) []).getD i 0=t:=by
    rw[aa,ac hi];exact et
   rw[l];exact x.JG (L:=q.lines) (B:=q.bits) (R:=q.ready.set (c*4+k) ((q.re (c*4+k)).take i++(q.re (c*4+k)).drop (i+1))) (C:=q.IJ.set c t) z
  ·exact x.Kf d b k oA
theorem kK {q:PW} {m:Int} {c:Nat}:∀k,Rs q (rnx q m c k)
 |0=>dR q
 |k+1=>by
  unfold Wd.rnx;split
  ·exact (dR q).ls
  ·exact kK k
theorem Lw.settle {p:PW} (h:Lw p) {c:Nat} (a:c<p.IJ.length):Lw (rlP p c):=by
 have x:=h.m.tk;unfold rlP;split
 ·rename_i e0;exact h.tk (x.Kf a e0 4 oD) (kK 4)
 split
 ·exact h
 ·rename_i e0 _;obtain⟨t,et⟩:∃t:Nat,p.co c=t:=(x.q.c0 c).resolve_left e0
  rw[show p.IJ.getD c (-1)=t from et,ah];obtain⟨_,b,d,_⟩:=x.q.inc et;have y:Tk (Hnd t) {p with IJ:=p.IJ.set c (-1)}:=x.JG (L:=p.lines) (B:=p.bits) (R:=p.ready) (x.q.JT et a);have z:=y.Jd (show p.t t 9≠5 by omega);exact h.tk (Tk.Kf (q:=wnP {p with IJ:=p.IJ.set c (-1)} t (rdN p t)) z (by show c<(p.IJ.set c (-1)).length;simpa using a) (by show (p.IJ.set c (-1)).getD c (-1)= -1;rw[dx a,ag rfl]) 4 oD) (Rs.trans (((dR p).ls (L:=p.lines) (R:=p.ready) (B:=p.bits) (C:=p.IJ.set c (-1))).wn t (rdN p t)) (kK 4))
theorem Lw.start {p:PW} (h:Lw p) {t:Nat} (a:p.k t=6) (b:p.t t 9=0):Lw (wnP p t (rdN p t)):=h.tk (h.m.tk.start a b) ((dR p).wn _ _)
theorem Lw.stop {p:PW} (h:Lw p) {t:Nat} (a:p.k t=6):Lw (stP p t):=h.tk (h.m.tk.stop a) ⟨rfl,rfl,rfl,rfl,rfl,rfl⟩
theorem Lw.JZ {p:PW} (h:Lw p) {t:Nat} (a:p.k t=6) {b:Int} (c:0<=b∧b<=3):Lw (rkP p t b):=by
 have y:=h.m.tk.JZ a c;unfold rkP at y ⊢;split
 ·rename_i e;rw[ag e] at y;exact h.tk y ⟨rfl,rfl,rfl,rfl,rfl,rfl⟩
 ·rename_i e;rw[ae e] at y;exact h.tk y ((dR p).task _ _ _)
theorem Lw.Jx {p:PW} (h:Lw p) {t:Nat} (a:p.k t=6) {k:Nat} {v:Int} (hk:k<=8∨k=15∨k=16) (hv:0<=v∧v<=65535):Lw (p.task t k v):=h.tk (h.m.tk.Jx a hk hv) ((dR p).task _ _ _)
theorem GP {p:PW} {d:Nat} (x:Tk Nbd p):(fsV p d= -1∧∀m:Nat,(m:Int)∈p.li d->p.t m 9≠4)∨∃(u:Nat) (l:List Int),fsV p d=u∧p.li d=(u:Int)::l∧p.t u 9=4:=by
 unfold fsV
 cases hl:p.lines.getD d [] with
 |nil=>
  refine .inl ⟨rfl,fun m b=>?_⟩;rw[show p.li d=[] from hl] at b
  cases b
 |cons z l=>
  have c:z∈p.li d:=by rw[show p.li d=_ from hl];exact cD ..
  obtain⟨u,rfl,_⟩:=x.q.ln d z c;show ((if p.II.getD ((u:Int)).toNat bl 9=4 then (u:Int) else -1)= -1∧_)∨_
  rw[ah];by_cases a:p.t u 9=4
  ·rw[ag a];exact .inr ⟨u,l,by show (if p.II.getD ((u:Int)).toNat bl 9=4 then (u:Int) else -1)=u;rw[ah];exact ag a,hl,a⟩
  ·rw[ae a];exact .inl ⟨rfl,fun m b g=>a ((x.q.lw d m u b c).1 g)⟩
theorem Tk.JP {p:PW} (x:Tk Nbd p) {d:Nat} (a:p.k d=7):p.bi d=0∧d<p.lines.length:=⟨(x.q.bt d).elim id fun g=>by have:=g.1;omega,by rw[x.lf.lines];exact iN oA⟩
theorem vB {p q:PW} (h:Rs p q) {t a:Nat} {s:Int}:Rs p (ssP q t a s):=⟨h.k,h.s,h.r,h.l,h.d,h.t⟩
theorem vH (p:PW) (d u:Nat) (l:List Int) (b v:Int):Rs p (wdP p d u l b v):=by
 unfold wdP frP;exact ((((dR p).ls (L:=p.lines.set d l) (R:=p.ready) (B:=p.bits) (C:=p.IJ)).task _ _ _).task _ _ _).task _ _ _ |>.wn _ _
theorem Lw.send {p:PW} (h:Lw p) {c t d:Nat} {b v:Int} {cl:Bool} (r:p.co c=t) (F:p.k d=7) (D:0<=b∧b<=65535) (hv:0<=v∧v<=65535):Lw (snP p t d b v cl):=by
 have x:=h.m.tk;obtain⟨_,i,X,_⟩:=x.q.inc r;have I:=x.tl i;obtain⟨b0,K⟩:=x.JP F;unfold snP;rw[ah,ah];rcases GP (d:=d) x with ⟨e,P⟩|⟨u,l,e,hl,A⟩
 ·rw[ag e];have y:=(x.Jx i (k:=15) oD hv).Jx i (k:=16) oD D;have T:∀m,((p.task t 15 v).task t 16 b).t m 9=p.t m 9:=fun m=>by rw[fV (by rw[ap];exact I),ae oA,fV I,ae oA]
  have H:pl (if cl then 3 else 2)=7:=by cases cl<;>rfl
  exact h.tk (y.JN (c:=c) (t:=t) (a:=d) (s:=if cl then 3 else 2) r (by cases cl<;>decide) (by cases cl<;>decide) K (by rw[H];decide) (by rw[H];exact F) b0 (fun m N=>by
   rw[T];have:=P m N;exact⟨fun g=>by cases cl<;>simp at g,fun g=>absurd g this⟩) (by cases cl<;>(intro g;simp at g))) (vB (((dR p).task _ _ _).task _ _ _))
 ·rw[ae oA,e,ah,show (p.lines.getD d []).tail=l by rw[show p.lines.getD d []=_ from hl];rfl];have y:=x.hand hl D hv
  cases cl with
  |false=>exact h.tk y (vH _ _ _ _ _ _)
  |true=>
   have O:(u:Int)∈p.li d:=by rw[hl];exact cD ..
   obtain⟨_,J,Y,_⟩:=x.q.inl O;have f:=x.tl J;have G:u≠t:=fun g=>by rw[g] at A;omega
   have W:∀n j,j≠1->j≠2->j≠9->j≠14->(wdP p d u l b v).t n j=p.t n j:=fun n j Q S U V=>by
    unfold wdP frP;rw[Bo (by rw[ap,ap,ap];exact f),ae oA,ae oA,fV (by rw[ap,ap];exact f),ae oA,fV (by rw[ap];exact f),ae oA,fV (p:={p with lines:=p.lines.set d l}) f,ae oA]
   have z:∀n,(wdP p d u l b v).t n 9=if n=u then 1 else p.t n 9:=fun n=>by
    by_cases g:n=u
    ·rw[ag g];unfold wdP frP;rw[Bo (by rw[ap,ap,ap];exact f),ae oA,ag ⟨g,rfl⟩]
    ·rw[ae g];unfold wdP frP;rw[Bo (by rw[ap,ap,ap];exact f),ae oA,ae oA,fV (by rw[ap,ap];exact f),ae oA,fV (by rw[ap];exact f),ae oA,fV (p:={p with lines:=p.lines.set d l}) f,ae oA]
   have E:=r;have o:=y.off E;have M:=(x.o.ow u).elim id fun ⟨w,_,_,g⟩=>absurd A g;exact h.tk (o.ask (u:=u) J G (show (wdP p d u l b v).t t 9≠5 by rw[z,ae (fun g=>G g.symm)];omega) (show (wdP p d u l b v).t u 17= -1 by rw[W u 17 oD oD oD oD];exact M) (show (wdP p d u l b v).t u 9≠4 by rw[z,ag rfl];decide) (y.q.inc E).2.2.2.2.1) (((vH _ _ _ _ _ _).trans (((dR _).ls (L:=(wdP p d u l b v).lines) (R:=(wdP p d u l b v).ready) (B:=(wdP p d u l b v).bits) (C:=(wdP p d u l b v).IJ.map (noT t))))).task _ _ _ |>.task _ _ _)
