/- Qax -/
import Derived.Test.YtaejnmmpddbbjaaGreatDoorQaw
set_option maxRecDepth 100000
set_option maxHeartbeats 16000000
namespace Go.Proofs.YtaejnmmpddbbjaaGreatDoor
namespace Wd
open Go.RowKit Mem Bw Nums Mmu
theorem uo {α:Type} {g:α->Nat}:∀(l:List α) (a:Nat),(∀j (b:j<l.length),j≠a->g l[j]=0)->ec g l=match l[a]? with|some x=>g x|none=>0
 |[],_,_=>by simp[ec]
 |x::l,0,h=>by
  have:=jP (g:=g) l (fun j b=>h (j+1) (by simp;omega) oA);unfold ec at this ⊢;rw[aW,ct,this];rfl
 |x::l,a+1,h=>by
  have c:=uo l a (fun j b e=>h (j+1) (by simp;omega) oA);have d:g x=0:=h 0 oS oA;unfold ec at c ⊢;rw[aW,ct,c,d,aC];rfl
theorem vI {x:Int}:∀{l:List Int},l.Nodup->x∈l->cn x l=1
 |z::l,hn,hx=>by
  rw[List.nodup_cons] at hn;rcases bI.1 hx with e|e
  ·have:=my (x:=x) (l:=l) (e▸hn.1);unfold cn ec at this ⊢;rw[aW,ct,this,one,ah e.symm]
  ·have:=vI hn.2 e;unfold cn ec at this ⊢;rw[aW,ct,this,one,ae (fun (y:z=x)=>hn.1 (y▸e))]
theorem nW {ls:List (List Int)} {j:Nat} (h:j<ls.length):ls[j]=ls.getD j []:=by rw[aa,ac h];rfl
theorem oP {x:Int} {ls:List (List Int)} (h:∀a,x∉ls.getD a []):cna x ls=0:=jP ls fun j b=>my (by rw[nW b];exact h j)
theorem vK {x:Int} {ls:List (List Int)} {a:Nat} (c:x∈ls.getD a []) (g:(ls.getD a []).Nodup) (h:∀b,b≠a->x∉ls.getD b []):cna x ls=1:=by
 have d:a<ls.length:=by
  rcases cU a ls.length with y|y
  ·exact y
  ·rw[aa,aH y] at c;cases c
 unfold cna;rw[uo ls a fun j f e=>my (by rw[nW f];exact h j e),ac d];show cn x ls[a]=1
 rw[nW d];exact vI g c
theorem tr {cs:List Int} {j:Nat} (h:j<cs.length):cs[j]=cs.getD j (-1):=by rw[aa,ac h];rfl
theorem vL {n:Nat} {cs:List Int} (h:∀c,cs.getD c (-1)≠n):cn n cs=0:=my fun b=>by
 obtain⟨j,a,e⟩:=dY b;exact h j (by rw[<-tr a];exact e)
theorem GG {n:Nat} {cs:List Int} {c:Nat} (a:cs.getD c (-1)=n) (h:∀d,d≠c->cs.getD d (-1)≠n):cn n cs=1:=by
 have hl:c<cs.length:=by
  rcases cU c cs.length with y|y
  ·exact y
  ·rw[aa,aH y] at a;have:(-1:Int)=n:=a;omega
 unfold cn;rw[uo cs c fun j b e=>?_,ac hl]
 ·show one n cs[c]=1
  rw[tr hl,a];exact ah rfl
 ·rw[tr b];exact ae (h j e)
theorem Tk.b5 {p:PW} (x:Tk Nbd p):∀k (hk:k<p.IA.length),D6 p k p.IA[k]=false:=fun n hk=>by
 rw[Ap hk];unfold D6 btB;by_cases r:p.k n=6
 ·rw[ah r];have ok:=x.a.ok n r;have w:=x.q.wp r id;have K:=xX fun k hk=>by have:=ok k oA;unfold fOk at this;rwa [ah oA] at this
  have H:nfB p (p.t n)=true:=by
   unfold nfB;rw[K,show wB (p.t n 8)=true from ok 8 oD,show wB (p.t n 15)=true from ok 15 oD,show wB (p.t n 16)=true from ok 16 oD,show dH 0 6 (p.t n 9)=true from ok 9 oD,show dH 0 3 (p.t n 10)=true from ok 10 oD,show dH 0 ((p.IC.length:Int) - 1) (p.t n 18)=true from ok 18 oD,show dH 0 3 (p.t n 19)=true from ok 19 oD];rfl
  have E:p.t n 17= -1∨∃u:Nat,p.t n 17=u∧p.k u=6∧u<p.IA.length∧p.t u 9=5∧p.t n 9≠4:=(x.o.ow n).elim .inl fun ⟨u,a,b,c⟩=>by
   have s:=dh fun e=>by rw[x.a.no u e 9 oD] at b;cases b
   exact .inr ⟨u,a,s,x.tl s,b,c⟩
  have G:ffB p (p.t n)=true:=by
   unfold ffB;rw[show fG p (p.t n 11) 5=true from ok 11 oD,show fG p (p.t n 12) 4=true from ok 12 oD,show fG p (p.t n 13) 7=true from ok 13 oD];show fG p (p.t n 17) 6=true
   unfold fG;rcases E with e|⟨u,e,s,hl,_⟩
   ·rw[e];rfl
   ·rw[e,lp (iS oA),s];simp
  have C:dbB p n (p.t n)=true:=by
   have I:owB p (p.t n)=true:=by
    unfold owB;rcases E with e|⟨u,e,s,hl,i,F⟩
    ·rw[e];rfl
    ·rw[e,yj hl,Ap hl,i,bne_iff_ne.2 F];simp
   unfold dbB;rw[I];by_cases i:p.t n 9=5
   ·rw[ah i];obtain⟨m,v⟩:=x.o.ak n i;have D:m<p.IA.length:=by
     rcases cU m p.IA.length with y|y
     ·exact y
     ·have:p.t m=bl:=by show p.IA.getD m bl=bl;rw[aa,aH y];rfl
      rw[this] at v;have:(-1:Int)=n:=v;omega
    rw[uo p.IA m fun j z e=>?_,ac D]
    ·show (true&&((ow (n:Int) p.IA[m]:Nat):Int)==1)=true
     rw[Ap D,ow,ah v];rfl
    ·rw[Ap z];exact ae fun g=>e (x.o.ij j m n g v)
   ·rw[ae i,jP p.IA fun j z=>?_]
    ·rfl
    ·rw[Ap z];refine ae fun g=>i ?_;rcases x.o.ow j with e|⟨u,e,h,_⟩
     ·omega
     ·rwa [show n=u by omega]
  have L:srB p n (p.t n)=true:=by
   unfold srB;by_cases f:pl (p.t n 9)=0
   ·rw[ah f,w.a1 f,oP fun a e=>(w.ln a e).1 f];rfl
   ·rw[ae f];obtain⟨a,e1,e2,A⟩:=w.la f;have M:p.k a≠0:=by rw[e2];exact f
    rw[e1,lp (iS M),e2,af,vK A (x.q.lu a) (fun b B e=>by have:=(w.ln b e).2;omega),show cn n (p.lines.getD a [])=1 from vI (x.q.lu a) A];simp
  have J:rrB p n (p.t n)=true:=by
   unfold rrB;by_cases l:p.t n 9=1
   ·rw[ah l];rcases w.rq l with e|e
    ·rw[vL fun c g=>(w.cr c g).2.2 e,vK e (x.q.ru _) (fun b B g=>B (w.rd b g).2.symm)];rfl
    ·rw[GG e (fun d C g=>by have:=(w.cr d g).2.1;omega),oP fun a g=>(w.cr _ e).2.2 (by rw[(w.rd a g).2];exact g)];rfl
   ·rw[ae l,vL fun c g=>l (w.cr c g).1,oP fun a g=>l (w.rd a g).1];rfl
  rw[H,G,C,L,J];rfl
 ·rw[ae r,kx.2 (x.a.no n r)];rfl
theorem Tk.b6 {p:PW} (x:Tk Nbd p):∀k (hk:k<p.lines.length),D9 p k p.lines[k]=false:=fun k hk=>by
 have F:k<p.kinds.length:=by rw[<-x.lf.lines];exact hk
 have e:p.lines[k]=p.li k:=nW hk;rw[e];have r:∀z,z∈p.li k->∃n:Nat,z=n∧p.k n=6∧n<p.kinds.length∧n<p.IA.length∧p.t n 14=k∧p.k k=pl (p.t n 9)∧pl (p.t n 9)≠0:=fun z c=>by
  obtain⟨n,e1,j,d,b,o⟩:=x.q.ln k z c;obtain⟨a,u,f,_⟩:=x.q.la n d j b;obtain rfl:a=k:=oA;exact⟨n,e1,d,iS oA,x.tl d,o,f,b⟩
 have E:∀s,pl s≠0->pl s=7∨pl s=8:=fun s h=>by
  unfold pl at h ⊢;split
  ·exact .inl rfl
  ·split
   ·exact .inr rfl
   ·simp_all
 unfold D9 blB;have hh:hdB (p.kinds.getD k 0) (p.bits.getD k 0) (p.li k).length=false:=by
  unfold hdB;rw[eQ];constructor
  ·cases hl:p.li k with
   |nil=>rfl
   |cons z l=>
    obtain⟨n,_,_,_,_,_,B,C⟩:=r z (by rw[hl];exact cP ..);have:p.kinds.getD k 0=pl (p.t n 9):=B;rw[this];rcases E _ C with g|g<;>rw[g]<;>simp
  ·rcases x.q.bt k with g|⟨u,f,i⟩
   ·rw[show p.bits.getD k 0=0 from g];rfl
   ·rw[show p.kinds.getD k 0=8 from u,f,show wB (p.bits.getD k 0)=true from aA i];simp
 rw[hh,Bool.false_or,bR];intro z c;obtain⟨n,rfl,j,d,b,o,_⟩:=r z c;have A:∀m:Nat,m<p.IA.length->wtB p m=(p.t m 9==4):=fun m v=>by
  unfold wtB;rw[af,ac v,Ap v]
 have D:wtB p (n:Int)=wtB p ((p.li k).getD 0 0):=by
  cases hl:p.li k with
  |nil=>rw[hl] at c;cases c
  |cons y l=>
   have w:y∈p.li k:=by rw[hl];exact cP ..
   obtain⟨m,rfl,_,_,i,_⟩:=r y w;show wtB p n=wtB p m
   rw[A n b,A m i];have:=x.q.lw k n m c w;rw[db,bH,bH];exact this
 unfold tB;rw[lp d,j,D,show atV p (n:Int)=k by unfold atV;rw[af,ac b,Ap b];exact o];simp
theorem Tk.Kf {p:PW} (x:Tk Nbd p) {n:Nat} (a:p.k n=6) (d:p.t n 9=1) (c:Int) (e:p.t n 18=c):rdB p n c=true:=by
 have b:=x.tl a;unfold Wd.rdB;rw[lp (iS oA),a,af,ac b,Ap b];simp[d,e]
theorem Tk.b7 {p:PW} (x:Tk Nbd p):∀k (hk:k<p.IC.length),Eb p k p.IC[k]=false:=fun k hk=>by
 rw[tr hk];unfold Eb bcB;rcases x.q.cr k with g|⟨n,a,_,b,c,d,_⟩
 ·rw[show p.IC.getD k (-1)= -1 from g];rfl
 ·rw[show p.IC.getD k (-1)=n from a,x.Kf b c k d];simp
theorem Tk.b8 {p:PW} (x:Tk Nbd p):∀k (hk:k<p.ready.length),Ec p k p.ready[k]=false:=fun k hk=>by
 rw[nW hk];unfold Ec brB;rw[bR];intro z e;obtain⟨n,rfl,_,a,c,d⟩:=x.q.rd k z e;have b:=x.tl a;have g:=x.num a;have f:(p.t n 18*4+p.t n 10).toNat=k:=d;unfold rpB;rw[x.Kf a c ((k:Int)/4) oA,af,ac b,Ap b];have:p.t n 10=(k:Int)%4:=oA;simp[this]
structure TlO (p:PW) (l:List Ent):Prop where
 n:l.length<=4
 t:∀e∈l,fi p e=true
 d:l.Pairwise fun a e=>pg e.1 e.2.1 a=false
theorem TlO.bm {p:PW} {l:List Ent} (h:TlO p l):bmB p l=false:=by
 unfold bmB;rw[aw (by have:=h.n;omega),Bool.false_or,bR];intro j b;have b:=List.mem_range.1 b;rw[ac b];show ¬emB p l j l[j]=true
 unfold emB;rw[h.t _ (av b)];have:(l.take j).any (pg l[j].1 l[j].2.1)=false:=by
  rw[bR];intro a c;obtain⟨i,hi,rfl⟩:=dY c;rw[bL] at hi;rw[List.getElem_take,List.pairwise_iff_getElem.1 h.d i j oA b oA]
  decide
 rw[this]
 decide
structure Lw (p:PW):Prop where
 m:Md (fun _=>False) p
 tl:∀l∈p.ID,TlO p l
 tm:0<=p.time
theorem Lw.snd {p:PW} (h:Lw p) (i:p.time<=1000000):mf p=true:=by
 obtain⟨r,j⟩:=h.m.keys;have hk:=j.keys h.m.op;have hl:=h.m.tk.lf;have x:=h.m.tk;have lf:lfB p=true:=Fc (by have:=hl.k1;omega) (by have:=hl.k2;omega) (by have:=hl.c1;omega) (by have:=hl.c2;omega) (by have:=hl.d1;omega) (by have:=hl.d2;omega) (by have:=hl.IE;omega) (by have:=hl.IB;omega) (by have:=hl.IA;omega) (by have:=hl.lines;omega) (by have:=hl.bits;omega) (by have:=hl.ready;omega) (by have:=hl.ID;omega);have a0:lk (DW p) p.IE=none:=dO (fun k hk=>by unfold DW nwB wB;rw[aA (h.m.IE.w _ (av hk))];rfl);have a1:lk (DX p) p.kinds=none:=dO (fun k hk=>by
  obtain⟨d,f,g⟩:=h.m.ks _ (av hk);unfold DX nkB;rw[aA ⟨d,f⟩,beq_eq_false_iff_ne.2 g];rfl)
 have b:lk (DY p) p.IF=none:=dO (fun k hk=>by unfold DY nd;rw[aA (h.m.ds _ (av hk))];rfl);have c:lk (F9 p) p.IE=none:=dO (fun k hk=>by
  have:=h.m.IE.e k hk;rw[aa,ac hk] at this;exact this)
 have a:lk (yR p) p.ID=none:=dO (fun k hk=>(h.tl _ (av hk)).bm);unfold mf wmA;rw[lf,show dH 0 1000000 p.time=true from aA ⟨h.tm,i⟩,Bool.and_self,ah rfl,pn,a0,a1,b,dO hk.b3,dO hk.b4,dO x.b5,dO x.b6,dO x.b7,dO x.b8,c,a];rfl
theorem jZ {p:PW} {i:Nat} (h:i<p.IB.length):p.IB.getD i fC=p.s i:=by
 show _=p.IB.getD i eS
 rw[aa,aa,ac h];rfl
theorem zq {p:PW} {a:Int} (h:gI p a=0):∃n:Nat,a=n∧n<p.IB.length∧p.s n 0≠0:=by
 unfold gI at h;split at h
 ·rename_i h1;have:=ay h1;obtain⟨n,rfl⟩:∃n:Nat,a=n:=⟨a.toNat,oA⟩
  have b:n<p.IB.length:=oA;rw[af,jZ b] at h;split at h
  ·cases h
  ·exact⟨n,rfl,b,by assumption⟩
 ·cases h
theorem H7 {p:PW} {a:Int} (h:opE p a=0):∃n:Nat,a=n∧n<p.IB.length∧p.s n 0=0∧p.k (n/16)=5:=by
 unfold opE at h;split at h
 ·rename_i h1;have:=ay h1;obtain⟨n,rfl⟩:∃n:Nat,a=n:=⟨a.toNat,oA⟩
  have b:n<p.IB.length:=oA;rw[af,jZ b] at h;split at h
  ·split at h
   ·exact⟨n,rfl,b,by assumption,by assumption⟩
   ·cases h
  ·cases h
 ·cases h
theorem ry {p q:PW} (C:kS p) (lf:LF p) (r:∀f:Nat,p.k f=4->isB q f 4=true) (l:q.IE.length=p.IE.length) (m:∀i,p.k (i/16)=3∨p.k (i/16)=4->p.IE.getD i 0≠0->q.IE.getD i 0=p.IE.getD i 0) {e:Ent} (h:fi p e=true):fi q e=true:=by
 unfold fi at h ⊢;simp only[am,bH,bp] at h ⊢;obtain⟨⟨v,w⟩,⟨b,x⟩,z⟩:=h;obtain⟨s,j,G,c⟩:=fJ v;have D:eu q.IE e.1 (e.2.1*16)=eu p.IE e.1 (e.2.1*16):=by
  rw[j] at b ⊢;generalize J:e.2.1*16=a at*;unfold eu at b ⊢;rw[l];by_cases c1:¬inb p.IE.length s a
  ·rw[ah c1] at b;cases b
  rw[ae c1] at b ⊢;rw[ae c1];have B:n16 q.IE=n16 p.IE:=by unfold n16;rw[l]
  rw[B];by_cases c2:¬isE (e1 p.IE s a) (n16 p.IE)
  ·rw[ah c2] at b;cases b
  rw[ae c2] at b;by_cases g:¬isE (e2 p.IE (e1 p.IE s a%1024) a) (n16 p.IE)
  ·rw[ah g] at b;cases b
  have I:0<=a∧a/256<=15:=oA;have d:¬isE 0 (n16 p.IE):=by unfold isE;omega
  have E:e1 q.IE s a=e1 p.IE s a:=by
   unfold e1;refine m _ (.inr ?_) fun y=>c2 ?_
   ·rw[show ((s:Int)*16+a/256).toNat/16=s by omega];exact c
   ·unfold e1;rw[y];exact d
  rw[E];have F:e2 q.IE (e1 p.IE s a%1024) a=e2 p.IE (e1 p.IE s a%1024) a:=by
   have A:((s:Int)*16+a/256).toNat<p.IE.length:=by have:=lf.IE;omega
   have b1:=(gw.1 (C.e _ A)).1 (by rw[show ((s:Int)*16+a/256).toNat/16=s by omega];exact c);have n0:e1 p.IE s a≠0:=fun y=>c2 (by rw[y];exact d);obtain⟨t,n,H,u⟩:=fJ (b1.resolve_left n0);have n:e1 p.IE s a - 32768=t:=n;have k2:=lf.k2;have o:e1 p.IE s a%1024=t:=oA;unfold e2;rw[o];refine m _ (.inl ?_) fun y=>g ?_
   ·rw[show ((t:Int)*16+a/16%16).toNat/16=t by omega];exact u
   ·unfold e2;rw[o,y];exact d
  rw[F]
 rw[D];exact⟨⟨by rw[j];exact r s c,w⟩,⟨b,x⟩,z⟩
theorem TlO.Jk {p q:PW} {l:List Ent} (h:TlO p l) (b:∀e,fi p e=true->fi q e=true):TlO q l:=⟨h.n,fun e a=>b e (h.t e a),h.d⟩
theorem TlO.filter {p q:PW} {l:List Ent} (h:TlO p l) {g:Ent->Bool} (b:∀e∈l,g e=true->fi q e=true):TlO q (l.filter g):=
 ⟨aB (dG _ _) h.n,fun e a=>b e (List.mem_filter.1 a).1 (List.mem_filter.1 a).2,h.d.filter _⟩
theorem Lw.IB {p:PW} (h:Lw p) {S:List (Nat->Int)} (hl:S.length=p.IB.length) (hk:∃r,Ky (fun _=>False) {p with IB:=S} r) (c:Op {p with IB:=S}):Lw {p with IB:=S}:=
 ⟨⟨h.m.ks,h.m.ds,hk,c,⟨h.m.IE.w,h.m.IE.e⟩,h.m.tk.same (h.m.tk.lf.of (e5:=hl))⟩,fun l b=>(h.tl l b).Jk fun e a=>(jz (p:=p) (q:={p with IB:=S}) rfl rfl e).trans a,h.tm⟩
theorem Lw.move {p:PW} (h:Lw p) {a b:Int} (c:boE p a b=0):Lw (mvP p a b):=by
 unfold boE at c;by_cases d:gI p a=0
 ·rw[ah d] at c;obtain⟨a,rfl,_,e⟩:=zq d;obtain⟨b,rfl,g,i,f⟩:=H7 c;obtain⟨r,j⟩:=h.m.keys;obtain⟨k1,k2⟩:=j.move e g i f h.m.op;exact h.IB (by unfold hnd;simp) ⟨_,k1⟩ k2
 ·rw[ae d] at c;exact absurd c d
theorem Lw.add {p:PW} (h:Lw p) {b:Nat} (l:b<p.IB.length) (j:p.s b 0=0) (g:p.k (b/16)=5) {f:Nat->Int} (q:f 0≠0) (hk:vu p f)
  (v:f 6= -1∨∃u:Nat,f 6=u∧u<p.IB.length∧p.s u 0≠0∧cmB (p.s u) f=true)
  (o:f 0=1->∀n:Nat,clI n f=true->p.k n=0∧∀i,clI n (p.s i)=false)
  (t:f 0≠1->f 6= -1->∀c,clI (f 1) (p.s c)=false):Lw {p with IB:=p.IB.set b f}:=by
 obtain⟨r,w⟩:=h.m.keys;obtain⟨x,k⟩:=(w.keys h.m.op).add l j g q hk v o t;exact h.IB oS ⟨x,k.em,fun i hi=>.inl (k.nd i hi),k.key,fun i=>(k.up i).elim .inl fun ⟨u,a,_,c,d,e⟩=>.inr ⟨u,a,c,d,e⟩,k.one,k.us,k.gp⟩ fun n g=>by obtain⟨i,_,e⟩:=k.op n g;exact⟨i,e⟩
theorem Lw.copy {p:PW} (h:Lw p) {n m:Nat} {r g:Int} {f:Nat->Int} (q:p.s n 0≠0) (w:p.s n 0≠1) (y:m<p.IB.length) (z:p.s m 0=0) (A:p.k (m/16)=5) (B:0<=r∧r<=7) (E:0<=g∧g<=65535) (D:g=0∨(p.s n 0=7∨p.s n 0=8)∧p.s n 5=0)
  (a:f 0=p.s n 0) (i:f 1=p.s n 1) (j:f 2=p.s n 2) (u:f 3=p.s n 3) (f4:f 4=bits .and .i64 (p.s n 4) r) (v:f 5=if g=0 then p.s n 5 else g) (x:f 6=n):Lw {p with IB:=p.IB.set m f}:=by
 obtain⟨rk,C⟩:=h.m.keys;have ks:=C.key n q;have d:=mN ks.c q;have t:=DR d.r B;have k1:KIn f:=⟨by rw[a];exact d.k,by rw[i];exact d.b,by rw[j];exact d.l,by rw[i,j];exact d.bl,by rw[a,j,u];exact d.m,by rw[a,j,u];exact d.o,by rw[f4];exact t.2,by
  rw[a,v];have:=d.g;split<;>omega⟩
 refine h.add y z A (by rw[a];exact q) ⟨zG k1,by rw[i,j];exact ks.le,by rw[a,i];exact ks.is⟩ (.inr ⟨n,x,rF q,q,?_⟩) (fun e=>absurd (a▸e) w) (fun _ e=>oA);rw[kA w,a,i,f4,v];refine⟨rfl,rfl,t.1,?_⟩;split
 ·exact .inr rfl
 ·omega
theorem Md.ID {D:Nat->Prop} {p:PW} (h:Md D p) {X:List (List Ent)} (hl:X.length=p.ID.length):Md D {p with ID:=X}:=by
 obtain⟨r,a⟩:=h.keys;exact⟨h.ks,h.ds,⟨r,a.to rfl rfl⟩,h.op,⟨h.IE.w,h.IE.e⟩,h.tk.same (h.tk.lf.of (e10:=hl))⟩
theorem Md.Ke {p q:PW} (h:Lw p) (m:Md (fun _=>False) q) (e:q.ID=p.ID) (et:q.time=p.time):Lw (fgt q):=by
 refine⟨m.ID oS,fun l hl=>?_,by show 0<=q.time;rw[et];exact h.tm⟩;obtain⟨l0,a,rfl⟩:=List.mem_map.1 (show l∈q.ID.map _ from hl);rw[e] at a;refine (h.tl l0 a).filter fun x _ b=>?_;exact (jz (p:=q) (q:=Wd.fgt q) rfl rfl x).trans (by simpa using b)
theorem mC:∀(m:Nat) (p:PW) (s:Nat),(drF m p s).time=p.time
 |0,_,_=>rfl
 |m+1,p,s=>by
  have da:∀f a q,(daF (drF m) f a q).time=q.time:=fun f a=>by
   induction a with
   |zero=>intro q;rw[im]
   |succ a ih=>
    intro q;rw[il];split
    ·exact ih q
    ·rw[ih,mC m q]
  have et:∀q t,(etP q t).time=q.time:=fun q t=>by unfold etP;split<;>rfl
  have ds:∀q t,(dsP q t).time=q.time:=fun q t=>by
   show ((q.lines.getD t []).foldl ds1 q).time=_
   rw[fV]
  unfold drF;split
  ·rfl
  ·unfold lsF;split
   ·rfl
   split
   ·rfl
   split
   ·rw[da];rfl
   split
   ·rw[et];rfl
   ·exact ds (nkP (drA p s) _) _
theorem Lw.drop {p:PW} (h:Lw p) (a:Int):Lw (dkP p a):=by
 unfold dkP;split
 ·rename_i e;obtain⟨n,rfl,_,b⟩:=zq e.2;rw[af];exact Md.Ke h (h.m.drop (nds p+1) p n (Nat.lt_succ_self _) b).1 (kZ _ p n) (mC _ p n)
 ·exact h
theorem Md.rv {m t:Nat}:∀(n:Nat) (p:PW),Md (fun _=>False) p->nds p<m->Md (fun _=>False) (rvN (drF m) t n p)∧(rvN (drF m) t n p).ID=p.ID∧(rvN (drF m) t n p).time=p.time
 |0,_,h,_=>⟨h,rfl,rfl⟩
 |n+1,p,h,hn=>by
  obtain⟨r,g⟩:=h.keys;rcases lx p.IB t p.IB.length with ⟨-,e⟩|⟨-,j, -,e, -, -⟩
  ·rw[m3 e];exact⟨h,rfl,rfl⟩
  ·obtain⟨_,d⟩:=wY g.Kc e;obtain⟨f,i⟩:=h.drop m p j hn d;obtain⟨a,b,c⟩:=Md.rv (m:=m) (t:=t) n (drF m p j) f oA;rw[ya e];exact⟨a,b.trans (kZ m p j),c.trans (mC m p j)⟩
theorem Lw.Ju {p:PW} (h:Lw p) (a:Int):Lw (Bh p a):=by
 unfold Bh;split
 ·obtain⟨m,t,s⟩:=Md.rv (t:=a.toNat) (neS p.IB) p h.m (Nat.lt_succ_self (nds p));exact Md.Ke h m t s
 ·exact h
