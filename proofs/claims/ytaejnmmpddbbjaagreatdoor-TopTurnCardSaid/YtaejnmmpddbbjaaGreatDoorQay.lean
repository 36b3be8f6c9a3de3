/- Qay -/
import Derived.Test.YtaejnmmpddbbjaaGreatDoorQat
set_option maxRecDepth 100000
set_option maxHeartbeats 16000000
namespace Go.Proofs.YtaejnmmpddbbjaaGreatDoor
namespace Wd
open Go.RowKit Mem Bw Nums Mmu
def tnV (p:PW):Int:=p.IF.getD ((p.time/4)%(p.IF.length:Int)).toNat 0
def dmB (p:PW) (m x:Int):Bool:=p.IA.getD x.toNat bl 19==m
theorem Aw (wb:Nat) (tag:Nat->Nat) (V:Nat->Value) (p:PW) (W:World) (bt:di W wb tag V p) (e:p.Fits) (x:1<=p.IF.length) (z:0<=p.time∧p.time<=1000000):
  Calls Tryz.prog 63 #[.pointer (some ⟨wb,0,none⟩)] W fun r W'=>r=.returned (.int .i64 (tnV p))∧Below W.heap.size W W':=by
 have i:=bh bt bt.o.time;obtain⟨m,l,e9⟩:=bt.o.IF.form oA;have k:=bh bt e9;have b:=bt.o.IF;rw[e9] at b;have t:(p.IF.length:Int)<=1000:=by have:=e.IF;omega
 have w:(p.time).tdiv 4=p.time/4:=bP oA;have f:(p.time/4).tmod (p.IF.length:Int)=(p.time/4)%(p.IF.length:Int):=cD oA;have u:0<=(p.time/4)%(p.IF.length:Int):=eJ _ oA;have v:(p.time/4)%(p.IF.length:Int)<(p.IF.length:Int):=eF _ oA;obtain⟨j,c⟩:∃j:Nat,(p.time/4)%(p.IF.length:Int)=j:=⟨((p.time/4)%(p.IF.length:Int)).toNat,oA⟩
 have d:j<p.IF.length:=oA;have s:(j:Int)<(p.IF.length:Int):=oA;have g:=b.int d;have a:=hid (show tnV p=p.IF[j] by unfold tnV;rw[c,af,aa,ac d,aG]);generalize p.IF[j]=y at g a;rw[c] at f;have A:((p.IF.length:Int)==0)=false:=by simpa using show ¬((p.IF.length:Int)=0) by omega
 have B:¬((p.IF.length:Int)=0):=oA;have n:0<=p.time/4:=oA;have q:p.time/4<=250000:=oA;generalize p.time/4=C at*;go_enter Tryz.func63,Tryz.ntmps63
 go_upto_region 1 with fail
 go_quiet (fail)
 have BS:=hid (aE (ag W.heap.size W) nq);generalize World.drewN _ _=h at BS ⊢;go_wp2_with fail
 go_ret
 exact⟨by rw[a.out];rfl,BS.out⟩
theorem AX (wb:Nat) (tag:Nat->Nat) (V:Nat->Value) (p:PW) (x:Nat) (m:Int) (d c:Nat) (W:World) (bt:di W wb tag V p) (g:p.Fits) (h:x<p.IA.length) (q:W.cell? ⟨d,0,none⟩=some (.pointer (some ⟨wb,0,none⟩))) (s:W.cell? ⟨c,0,none⟩=some (.int .i64 m)):
  Calls Tryz.prog 64 #[.int .i64 x,.pointer (some ⟨d,0,none⟩),.pointer (some ⟨c,0,none⟩)] W fun r W'=>r=.returned (.bool (dmB p m x))∧Below W.heap.size W W':=by
 have t:(p.IA.length:Int)<=1000:=by have:=g.IA;omega
 have u:(x:Int)<(p.IA.length:Int):=oA;obtain⟨n,l,e⟩:=bt.o.IA.form oA;have k:=bh bt e;have j:=bt.IH e h (show 19<20 by omega);have a:=hid (show dmB p m x=(p.IA.getD x bl 19==m) by unfold dmB;rw[af]);generalize p.IA.getD x bl 19=y at j a;by_cases b:y=m
 ·subst b;rw[beq_self_eq_true] at a;go_enter Tryz.func64,Tryz.ntmps64
  go_upto_region 1 with fail
  go_quiet (fail)
  have BS:=hid (aE (ag W.heap.size W) nq);generalize World.drewN _ _=f at BS ⊢;go_wp2_with fail
  go_ret
  exact⟨by rw[a.out];first|rfl|simp,BS.out⟩
 ·have i:(y==m)=false:=by simpa using b
  rw[i] at a;go_enter Tryz.func64,Tryz.ntmps64
  go_upto_region 1 with fail
  go_quiet (fail)
  have BS:=hid (aE (ag W.heap.size W) nq);generalize World.drewN _ _=f at BS ⊢;go_wp2_with fail
  go_ret
  exact⟨by rw[a.out];first|rfl|simp[b],BS.out⟩
theorem uQ (wb:Nat) (tag:Nat->Nat) (V:Nat->Value) (p:PW) (m:Int) (n g:Nat) (v:Value) (l:List Int) (w:World) (bt:di w wb tag V p) (O:p.Fits) (D:ed w v l) (hl:l.length<=1000) (E:∀z∈l,0<=z∧z<(p.IA.length:Int)) (o:w.cell? ⟨n,0,none⟩=some (.pointer (some ⟨wb,0,none⟩))) (a:w.cell? ⟨g,0,none⟩=some (.int .i64 m)):
  Calls Tryz.prog 120 #[v,.func (.func 64) #[] #[.pointer (some ⟨n,0,none⟩),.pointer (some ⟨g,0,none⟩)]] w fun r w'=>r=.returned (.int .i64 (ixP (dmB p m) l))∧Below w.heap.size w w':=by
 have I:=hid D;obtain⟨q,b,off,cap,rfl,P, -⟩:=D;have W:(l.length:Int)<=1000:=oA;have G:=hid P;have H:=hid (fun X (h:Below w.heap.size w X) (y:Int) (d:y∈l)=>show Calls Tryz.prog 64 #[.int .i64 y,.pointer (some ⟨n,0,none⟩),.pointer (some ⟨g,0,none⟩)] X fun r J=>r=.returned (.bool (dmB p m y))∧Below X.heap.size X J by
  obtain⟨y',rfl⟩:∃y':Nat,y=y':=⟨y.toNat,by have:=(E y d).1;omega⟩
  exact AX wb tag V p y' m n g X (bt.below h) O (by have:=(E _ d).2;omega) ((h.cell (aj _ _ o)).trans o) ((h.cell (aj _ _ a)).trans a))
 go_enter Tryz.func120,Tryz.ntmps120
 go_wp2_with fail
 go_loopw [8] (fun i wr=>∃(k:Nat),k<=l.length∧i=.int .i64 k∧Hid (Below w.heap.size w wr∧∀j (c:j<l.length),j<k->dmB p m l[j]=false)) (fun i _=>l.length - (intOf i).toNat)
 case atStart=>exact⟨0,oA,rfl,hid ⟨ag _ _,fun j _ h=>oA⟩⟩
 case round=>
  obtain⟨k,hk,rfl,A⟩:=hrel;have f:=hid A.1;have t:=hid A.2;by_cases s:k<l.length
  ·have Y:(k:Int)<(l.length:Int):=oA;have R:=G.out oA;subst R;obtain⟨q2,b2,Z,T,e2,Q,S⟩:=I.below f;have K:=S k s;have L:=Q oA;subst L
   cases e2
   have B:=hid (av s);obtain⟨y,d⟩:∃y,l[k]=y:=⟨_,rfl⟩
   rw[d] at K B;have C:=hid d;go_wp2_with fail
   refine (H.out _ f y B).mono ?_;rintro r w1 ⟨rfl,N⟩;have x:=hid (btr f N)
   cases hyt:dmB p m y with
   |true=>
    have u:=hid (show ixP (dmB p m) l=k by
     have o:l.findIdx (dmB p m)=k:=by
      rw[List.findIdx_eq s];exact⟨by rw[C.out];exact hyt,fun j c=>t.out j oA c⟩
     unfold ixP;rw[o,ah s])
    go_wp2_with fail
    go_ret
    exact⟨by rw[u.out];rfl,x.out⟩
   |false=>
    have F:=hid (show Below w.heap.size w w1∧∀j (c:j<l.length),j<k+1->dmB p m l[j]=false from⟨x.out,fun j c h=>by
     by_cases e:j=k
     ·subst e;rw[C.out];exact hyt
     ·exact t j c oA⟩)
    go_wp2_with fail
    exact⟨⟨k+1,oA,by go_num,F⟩,by simp[intOf];omega⟩
  ·obtain rfl:k=l.length:=oA;have U:¬((l.length:Int)<(l.length:Int)):=oA;have u:=hid (show ixP (dmB p m) l= -1 by
    unfold ixP;rw[ae];intro h;have a:=dR (w:=h);have M:=t.out _ h h;rw[M] at a
    cases a)
   go_wp2_with fail
   go_ret
   exact⟨by rw[u.out];rfl,f.out⟩
def nxR (p:PW) (m:Int) (c:Nat):Nat->Int
 |0=> -1
 |k+1=>if 0<=ixP (dmB p m) (p.ready.getD (c*4+k) []) then (p.ready.getD (c*4+k) []).getD (ixP (dmB p m) (p.ready.getD (c*4+k) [])).toNat 0 else nxR p m c k
theorem zE {α:Type} {f:α->Bool} {l:List α} (h:0<=ixP f l):∃i:Nat,ixP f l=i∧i<l.length:=by
 unfold ixP at h ⊢;by_cases a:l.findIdx f<l.length
 ·rw[ah a];exact⟨_,rfl,a⟩
 ·rw[ae a] at h;omega
theorem tN (wb:Nat) (tag:Nat->Nat) (V:Nat->Value) (p:PW) (m:Int) (s q c:Nat) (W:World) (bt:di W wb tag V p) (g:p.Fits) (hc:c*4+4<=p.ready.length) (hz:∀l∈p.ready,∀z∈l,0<=z∧z<(p.IA.length:Int)) (G:W.cell? ⟨s,0,none⟩=some (.pointer (some ⟨wb,0,none⟩))) (H:W.cell? ⟨q,0,none⟩=some (.int .i64 m)):
  Calls Tryz.prog 66 #[.pointer (some ⟨wb,0,none⟩),.int .i64 c,.func (.func 64) #[] #[.pointer (some ⟨s,0,none⟩),.pointer (some ⟨q,0,none⟩)]] W fun r W'=>r=.returned (.int .i64 (nxR p m c 4))∧Below W.heap.size W W':=by
 have au:(p.ready.length:Int)<=1000:=by have:=g.ready;omega
 have am:(c:Int)<=1000:=oA;obtain⟨gR,S⟩:=bt.o.ready.form;have A:=hid S;have w:=hid bt;have O:=hid (fun X (h:Below W.heap.size W X) (v:Value) (n:Nat) (a:n<p.ready.length) (hv:ed X v (p.ready.getD n []))=>uQ wb tag V p m s q v (p.ready.getD n []) X (bt.below h) g hv (by rw[aa,ac a];exact g.next _ (av a)) (by rw[aa,ac a];exact hz _ (av a)) ((h.cell (aj _ _ G)).trans G) ((h.cell (aj _ _ H)).trans H));have P:=hid (fun (n:Nat) (a:n<p.ready.length)=>show (p.ready.getD n []).length<=1000 by rw[aa,ac a];exact g.next _ (av a));go_enter Tryz.func66,Tryz.ntmps66
 go_wp2_with fail
 go_loopw [7] (fun i wr=>∃(k:Nat) (x:Int),k<=4∧Hid (x=(k:Int) - 1)∧i=.int .i64 x∧Hid (Below W.heap.size W wr∧nxR p m c 4=nxR p m c k)) (fun i _=>(intOf i+1).toNat)
 case atStart=>exact⟨4,3,oA,hid rfl,rfl,hid ⟨ag _ _,rfl⟩⟩
 case round=>
  obtain⟨k,x,hk,F,rfl,B⟩:=hrel;have d:=hid B.1;have D:=hid B.2;by_cases T:0<=x
  ·obtain⟨j,rfl⟩:∃j:Nat,x=j:=⟨x.toNat,oA⟩
   obtain rfl:k=j+1:=by have:=F.out;omega
   obtain⟨n,a⟩:∃n:Nat,c*4+j=n:=⟨_,rfl⟩
   have an:(c:Int)*4+(j:Int)=(n:Int):=oA;have f:n<p.ready.length:=oA;have aw:(n:Int)<(p.ready.length:Int):=oA;have ad:=hid f;have E:=hid (show nxR p m c 4=if 0<=ixP (dmB p m) (p.ready.getD n []) then (p.ready.getD n []).getD (ixP (dmB p m) (p.ready.getD n [])).toNat 0 else nxR p m c j by rw[D.out, <-a];rfl);have I:=(w.below d).o.ready;rw[A.out] at I;obtain⟨u,cu,L⟩:=I.at f;unfold ci at L;have M:=dS L.1;have C:=hid M;obtain⟨qu,bu,ou,al,rfl,Z,ay⟩:=M;have c7:=bh (w.below d) A;have ap:(j:Int)<=3:=oA;have Q:=hid (P.out n f);have HQ:=hid Z;have N:=hid (O.out _ d _ n f C);generalize aq:p.ready.getD n []=l at*;go_wp2_with fail
   refine N.mono ?_;rintro r w1 ⟨rfl,J⟩;have t:=hid (btr d J);by_cases hi:0<=ixP (dmB p m) l
   ·obtain⟨i,e,K⟩:=zE hi;have b:=hid (show nxR p m c 4=l[i] by rw[E.out,ah hi,e,af,aa,ac K,aG]);have ao:(i:Int)<(l.length:Int):=oA;have ar:(l.length:Int)<=1000:=by have:=Q.out;omega
    obtain⟨q2,b2,o2,ai,e2,Y,ab⟩:=C.below J
    cases e2
    have U:=Y oA;subst U;have R:=ab i K;rw[e];generalize l[i]=y at R b;go_wp2_with fail
    go_ret
    exact⟨by rw[b.out];rfl,t.out⟩
   ·have e:=hi;have b:=hid (show Below W.heap.size W w1∧nxR p m c 4=nxR p m c j from⟨t.out,by rw[E.out,ae hi]⟩);generalize ixP (dmB p m) l=ix at e;go_wp2_with fail
    exact⟨⟨j,(j:Int) - 1,oA,hid rfl,by go_num,b⟩,by simp[intOf]⟩
  ·have ax:=T;obtain rfl:k=0:=by have:=F.out;omega
   have b:=hid (show nxR p m c 4= -1 by rw[D.out];rfl);go_wp2_with fail
   go_ret
   exact⟨by rw[b.out];rfl,d.out⟩
theorem wZ {t:Int} {ls:List (List Int)} {n:Nat} (h:∀l∈ls,l.length<=n):∀l∈lvs t ls,l.length<=n:=fun l hl=>by
 unfold lvs at hl;obtain⟨l0,a,rfl⟩:=List.mem_map.1 hl;exact aB (dG _ _) (h l0 a)
theorem xR {ls:List (List Int)} {k:Nat} {x:Int} {n:Nat} (h:∀l∈ls,l.length<=n):∀l∈ls.set k (ls.getD k []++[x]),l.length<=n+1:=fun l hl=>by
 rcases aP hl with a|a
 ·exact aB (h l a) (Nat.le_succ _)
 ·rw[a,ax,aa]
  cases e:ls[k]? with
  |none=>simp
  |some l0=>exact Nat.succ_le_succ (h l0 (cV e))
theorem kN {p:PW} (h:p.Fits) (t k:Nat) (x:Int):(p.task t k x).Fits:=⟨h.IE,h.kinds,h.IB,by rw[ap];exact h.IA,h.lines,h.line,h.bits,h.IC,h.ready,h.next,h.ID,h.IF⟩
theorem AF {p:PW} (h:p.Fits) (a:∀l∈p.ready,l.length<=50) (t n:Nat):(wnP p t n).Fits:=
 ⟨h.IE,h.kinds,h.IB,(kN (kN h t 9 1) t 14 (-1)).IA,h.lines,h.line,h.bits,h.IC,by show (p.ready.set n _).length<=1000;rw[au];exact h.ready,fun l hl=>aB (xR a l hl) oA,h.ID,h.IF⟩
theorem CB {p:PW} (h:p.Fits) (t:Nat):(lvP p t).Fits:=
 ⟨h.IE,h.kinds,h.IB,(kN h t 14 (-1)).IA,by show (lvs t p.lines).length<=1000;rw[iY];exact h.lines,wZ h.line,h.bits,by show (p.IC.map (noT t)).length<=1000;rw[bJ];exact h.IC,by show (lvs t p.ready).length<=1000;rw[iY];exact h.ready,wZ h.next,h.ID,h.IF⟩
theorem DF {p:PW} (h:p.Fits) (b:∀l∈p.ready,l.length<=50) (t n:Nat):(wkP p t n).Fits:=
 have a:=kN (CB h t) t 9 1
 ⟨h.IE,h.kinds,h.IB,a.IA,a.lines,a.line,h.bits,a.IC,by show ((lvs t p.ready).set n _).length<=1000;rw[au];exact a.ready,fun l hl=>aB (xR (wZ b) l hl) oA,h.ID,h.IF⟩
theorem di.IJ {W:World} {wb:Nat} {tag:Nat->Nat} {V:Nat->Value} {p:PW} (h:di W wb tag V p) {g cap:Nat} (e:V 6=.slice (some ⟨g,0,none⟩) p.IC.length cap) {i:Nat} (hi:i<p.IC.length):W.cell? ⟨g,i,none⟩=some (.int .i64 (p.IC.getD i (-1)))∧W.frozen? ⟨g,i,none⟩=false:=by
 have a:=h.o.IC;rw[e] at a;exact⟨by rw[a.int hi,aa,ac hi,aG],a.frozen i⟩
theorem di.JD {W:World} {wb:Nat} {tag:Nat->Nat} {V:Nat->Value} {p:PW} (h:di W wb tag V p) (x:Nat):di W wb (fX tag W.heap.size x) V p∧Kt tag (fX tag W.heap.size x) W W:=
 ⟨h.kp (T:=fun _=>False) (aV _ _) (fun _ _ e=>e.elim) (fun _ hk=>dw hk),Kt.of (T:=fun _=>False) (aV _ _) (fun _ e=>e.elim) (fun _ hk=>dw hk)⟩
def snx (q:PW) (m:Int) (c:Nat):PW:=if nxR q m c 4= -1 then q else {lvP q (nxR q m c 4).toNat with IC:=(lvP q (nxR q m c 4).toNat).IC.set c (nxR q m c 4)}
def slP (p:PW) (c:Nat):PW:=if p.IC.getD c (-1)= -1 then snx p (tnV p) c else if dmB p (tnV p) (p.IC.getD c (-1)) then p else snx (wkP p (p.IC.getD c (-1)).toNat (rdN p (p.IC.getD c (-1)).toNat)) (tnV p) c
theorem CL {q:PW} {m:Int} {c:Nat} (d:∀l∈q.ready,∀z∈l,0<=z∧z<(q.IA.length:Int)):∀k,nxR q m c k= -1∨∃u:Nat,nxR q m c k=u∧u<q.IA.length
 |0=>.inl rfl
 |k+1=>by
  unfold nxR;split
  ·rename_i h;obtain⟨i,f,b⟩:=zE h;rw[f,af]
   right
   rw[aa (l:=q.ready.getD (c*4+k) []),ac b,aG];have a:=av b;generalize (q.ready.getD (c*4+k) [])[i]=y at a;rw[aa] at a
   cases e:q.ready[c*4+k]? with
   |none=>rw[e] at a;cases a
   |some l=>
    rw[e,aG] at a;have g:=d l (cV e) y a;exact⟨y.toNat,oA,oA⟩
  ·exact CL d k
theorem ve {p:PW} (h:Snd p):∀l∈p.ready,∀z∈l,0<=z∧z<(p.IA.length:Int):=by
 intro l hl z i;obtain⟨n,g,rfl⟩:=List.mem_iff_getElem.1 hl;have b:brB p n p.ready[n]=false:=h.b8 n g;unfold brB at b;rw[bR] at b;have e:=b z i;have c:rpB p z ((n:Int)/4) ((n:Int)%4)=true:=by simpa using e
 unfold rpB rdB at c;rw[am,am] at c;have a:=c.1.1;unfold isB fI at a;by_cases d:0<=z
 ·rw[ah d] at a;have f:=eq_of_beq a;obtain⟨j,_⟩:=List.getElem?_eq_some_iff.1 f;rw[h.lf.IA];omega
 ·rw[ae d] at a
  cases a
theorem Er {p:PW} (h:Snd p) {c:Nat} (e:c<p.IC.length):p.IC.getD c (-1)= -1∨∃(t:Nat) (f:t<p.kinds.length),p.IC.getD c (-1)=t∧p.kinds[t]=6:=by
 rw[aa,ac e,aG];have a:bcB p c p.IC[c]=false:=h.b7 c e;generalize p.IC[c]=z at a ⊢;unfold bcB at a;by_cases g:z= -1
 ·exact .inl g
 ·right
  rw[show (z== -1)=false by simpa using g,Bool.not_false,dF,cQ] at a;unfold rdB at a;rw[am] at a;have b:=a.1;unfold isB fI at b;by_cases d:0<=z
  ·rw[ah d] at b;have i:=eq_of_beq b;obtain⟨f,j⟩:=List.getElem?_eq_some_iff.1 i;exact⟨z.toNat,f,oA,j⟩
  ·rw[ae d] at b
   cases b
theorem Hq {p:PW} {t:Nat} (n:Nat) (h:t<p.IA.length) (g:∀l∈p.ready,∀z∈l,0<=z∧z<(p.IA.length:Int)):∀l∈(wkP p t n).ready,∀z∈l,0<=z∧z<((wkP p t n).IA.length:Int):=by
 have f:(wkP p t n).IA.length=p.IA.length:=by
  show (((p.task t 14 (-1)).IA.set t _).length)=_
  rw[au,ap]
 have c:∀l∈lvs (t:Int) p.ready,∀z∈l,0<=z∧z<(p.IA.length:Int):=by
  intro l hl z b;unfold lvs at hl;obtain⟨l0,a,rfl⟩:=List.mem_map.1 hl;exact g l0 a z (List.mem_filter.1 b).1
 rw[f];intro l hl z b;have d:=hl;rcases aP d with a|rfl
 ·exact c l a z b
 ·rcases dA.1 b with a|a
  ·rw[aa] at a
   cases e:(lvs (t:Int) p.ready)[n]? with
   |none=>rw[e] at a;cases a
   |some y=>
    rw[e,aG] at a;exact c y (cV e) z a
  ·rw[cG] at a;omega
theorem vh (wb:Nat) (tag:Nat->Nat) (V:Nat->Value) (p:PW) (c:Nat) (W:World) (bt:di W wb tag V p) (T:p.Fits) (hn:∀l∈p.ready,l.length<=50) (P:Snd p) (S:c<p.IC.length):
  Calls Tryz.prog 27 #[.pointer (some ⟨wb,0,none⟩),.int .i64 c] W fun r W'=>r=.returned (.tuple #[])∧∃tag',di W' wb tag' V (slP p c)∧Kt tag tag' W W':=by
 have aJ:(p.IC.length:Int)<=1000:=by have:=T.IC;omega
 have aH:(c:Int)<(p.IC.length:Int):=oA;obtain⟨w,R,e6⟩:=bt.o.IC.form oA;have n:=hid e6;obtain⟨br,kr⟩:=bt.JD 0;have BR:=hid br;have KR:=hid kr;have L:=hid (Aw wb (fX tag W.heap.size 0) V p (W.alloc (.cells #[.pointer (some ⟨wb,0,none⟩)] 50)) (br.below (bal (ag W.heap.size W) (.cells #[.pointer (some ⟨wb,0,none⟩)] 50))) T P.lf.d1 (by have h:=P.tm;unfold dH at h;simpa using h));have A:=hid (bM W #[.pointer (some ⟨wb,0,none⟩)] 50 0);obtain⟨m,hm⟩:∃m,tnV p=m:=⟨_,rfl⟩
 rw[hm] at L;have aC:=hid (show c*4+4<=p.ready.length by rw[P.lf.ready];omega);have aB:=hid (ve P);rcases Er P S with D|⟨t,ht,D,hk⟩
 ·have K:=hid (show slP p c=snx p m c by unfold slP;rw[ah D,hm]);have ax:=hid D;have al:=hid T;have ay:=aC;have am:=aB;have ad:=n;have ab:=hid S;go_enter Tryz.func27,Tryz.ntmps27
  go_wp2_with fail
  refine L.mono ?_;rintro r w1 ⟨rfl,a⟩;have z:=(a.cell (aj _ _ A)).trans A;have f:=hid (btr (bal (ag W.heap.size W) (.cells #[.pointer (some ⟨wb,0,none⟩)] 50)) a);have F:=hid f.size;have g:=hid (bal (ag w1.heap.size w1) (.cells #[.int .i64 m] 3));have b:=hid (show jf [(W.heap.size,.pointer (some ⟨wb,0,none⟩)),(w1.heap.size,.int .i64 m)] (fX tag W.heap.size 0) (w1.alloc (.cells #[.int .i64 m] 3)) from fun x G=>by
   simp only[bI,dc,or_false] at G;rcases G with rfl|rfl
   ·exact⟨(g.cell (aj _ _ z)).trans z,by unfold fX;rw[ae (Nat.lt_irrefl _)]⟩
   ·exact⟨bM w1 #[.int .i64 m] 3 0,by unfold fX;rw[ae (by have:=F.out;omega)]⟩)
  have e:=hid ((BR.below f).below g);have M:=hid (KR.trans (.below (btr f g)));clear a L A;go_upto_region 2 with fail
  generalize fX tag W.heap.size 0=tg at*;generalize World.alloc _ _=w2 at*;generalize an:w1.heap.size=v at*;clear z f F g an;generalize ao:W.heap.size=d at b ⊢;clear ao;have s:=hid (eO tg w2);have c6:w2.cell? ⟨wb,6,none⟩=some (.slice (some ⟨w,0,none⟩) p.IC.length R):=by rw[ai e.r (k:=6) rfl,n.out]
  have U:w2.cell? ⟨w,c,none⟩=some (.int .i64 (-1)):=by rw[(e.IJ ad ab).1,ax.out]
  have j:=(b.kt s (d,.pointer (some ⟨wb,0,none⟩)) oS).1;have Q:=(b.kt s (v,.int .i64 m) oS).1;have B:=hid (tN wb tg V p m d v c w2 e al ay am j Q);rcases CL (q:=p) (m:=m) (c:=c) am 4 with y|⟨u,y,aA⟩
  ·have J:=hid (show snx (p) m c=p from ah y);rw[y] at B;go_wp2_with fail
   refine B.mono ?_;rintro r Y ⟨rfl,a⟩;have H:=hid (e.below a);have C:=hid (s.trans (.below a));go_wp2_with fail
   exact aT (aI rfl _ _ _) rfl ⟨rfl,tg,by rw[K.out,J.out];exact H,M.trans C⟩
  ·have J:=hid (show snx (p) m c={lvP (p) u with IC:=(lvP (p) u).IC.set c u} by unfold snx;rw[y,ae oA,af]);rw[y] at B;have aF:¬((u:Int)= -1):=oA;have aE:((u:Int)== -1)=false:=oS;have aw:=hid (fun X (h:di X wb tg V (p))=>lr wb tg V (p) u X h al aA);go_wp2_with fail
   refine B.mono ?_;rintro r Y ⟨rfl,a⟩;have H:=hid (e.below a);have C:=hid (s.trans (.below a));have j:=(b.kt C (d,.pointer (some ⟨wb,0,none⟩)) oS).1;go_wp2_with fail
   refine (aw.out _ H).mono ?_;rintro r Z ⟨rfl,N,O⟩;have I:=hid N;have KZ:=hid (C.trans O);have j:=(b.kt KZ (d,.pointer (some ⟨wb,0,none⟩)) oS).1;have c6:=bh I n;have E:=hid (show (lvP (p) u).IC.length=(p).IC.length by unfold lvP;simp);have e6:=hid (show V 6=.slice (some ⟨w,0,none⟩) (lvP (p) u).IC.length R by rw[E.out];exact ad);obtain⟨U,f6⟩:=I.IJ e6 (i:=c) (by rw[E.out];exact ab);obtain⟨b7,k7⟩:=I.IK e6 c (u:Int);have B7:=hid b7;have K7:=hid (KZ.trans k7);go_wp2_with fail
   exact aT (aI rfl _ _ _) rfl ⟨rfl,tg,by rw[K.out,J.out];exact B7,M.trans K7⟩
 ·have az:t<p.IA.length:=by rw[P.lf.IA];exact ht
  have aK:¬((t:Int)= -1):=oA;have aL:((t:Int)== -1)=false:=oS;have aq:=hid (fun X tg d v (h:di X wb tg V p) N O=>AX wb tg V p t m d v X h T az N O);have av:=hid S;have HZ:=hid D
  cases hdm:dmB p m t with
  |true=>
   have K:=hid (show slP p c=p by unfold slP;rw[D,ae oA,hm,hdm,ah rfl]);rw[hdm] at aq;go_enter Tryz.func27,Tryz.ntmps27
   go_wp2_with fail
   refine L.mono ?_;rintro r w1 ⟨rfl,a⟩;have z:=(a.cell (aj _ _ A)).trans A;have f:=hid (btr (bal (ag W.heap.size W) (.cells #[.pointer (some ⟨wb,0,none⟩)] 50)) a);have F:=hid f.size;have g:=hid (bal (ag w1.heap.size w1) (.cells #[.int .i64 m] 3));have b:=hid (show jf [(W.heap.size,.pointer (some ⟨wb,0,none⟩)),(w1.heap.size,.int .i64 m)] (fX tag W.heap.size 0) (w1.alloc (.cells #[.int .i64 m] 3)) from fun x G=>by
    simp only[bI,dc,or_false] at G;rcases G with rfl|rfl
    ·exact⟨(g.cell (aj _ _ z)).trans z,by unfold fX;rw[ae (Nat.lt_irrefl _)]⟩
    ·exact⟨bM w1 #[.int .i64 m] 3 0,by unfold fX;rw[ae (by have:=F.out;omega)]⟩)
   have e:=hid ((BR.below f).below g);have M:=hid (KR.trans (.below (btr f g)));clear a L A;go_upto_region 2 with fail
   generalize fX tag W.heap.size 0=tg at*;generalize World.alloc _ _=w2 at*;generalize an:w1.heap.size=v at*;clear z f F g an;generalize ao:W.heap.size=d at b ⊢;clear ao;have s:=hid (eO tg w2);have c6:w2.cell? ⟨wb,6,none⟩=some (.slice (some ⟨w,0,none⟩) p.IC.length R):=by rw[ai e.r (k:=6) rfl,n.out]
   have U:w2.cell? ⟨w,c,none⟩=some (.int .i64 t):=by rw[(e.IJ n av).1,HZ.out]
   have j:=(b.kt s (d,.pointer (some ⟨wb,0,none⟩)) oS).1;have Q:=(b.kt s (v,.int .i64 m) oS).1;have HI:=hid (aq.out w2 tg d v e j Q);go_wp2_with fail
   refine HI.mono ?_;rintro r w3 ⟨rfl,a⟩;have B3:=hid (e.below a);have K3:=hid (s.trans (.below a));have c6:=bh B3 n;have U:w3.cell? ⟨w,c,none⟩=some (.int .i64 t):=by rw[(B3.IJ n av).1,HZ.out]
   have j:=(b.kt K3 (d,.pointer (some ⟨wb,0,none⟩)) oS).1;go_wp2_with fail
   exact ar (aI rfl _ _ _) rfl ⟨rfl,tg,by rw[K.out];exact B3,M.trans K3⟩
  |false=>
   obtain⟨r1,r2,r3,r4⟩:=lN P ht hk;have K:=hid (show slP p c=snx (wkP p t (rdN p t)) m c by unfold slP;rw[D,ae oA,hm,hdm,ae oD,af]);have aD:=hid (fun X tg (h:di X wb tg V p)=>AD wb tg V p t (rdN p t) X h T az r1 r3 r4 r2);have E:=hid (show (wkP p t (rdN p t)).IC.length=p.IC.length by show (p.IC.map (noT t)).length=_;rw[bJ]);have ax:=hid (show (wkP p t (rdN p t)).IC.getD c (-1)= -1 by
    show (p.IC.map (noT t)).getD c (-1)= -1
    rw[aa] at D;rw[aa,cW];rw[ac S,aG] at D;rw[ac S,D];show noT t t= -1
    unfold noT;rw[ah rfl])
   have al:=hid (DF T hn t (rdN p t));have ay:=hid (show c*4+4<=(wkP p t (rdN p t)).ready.length by
    show c*4+4<=((lvs (t:Int) p.ready).set _ _).length
    rw[au,iY];exact aC)
   have am:=hid (Hq (rdN p t) az aB);have ad:=hid (show V 6=.slice (some ⟨w,0,none⟩) (wkP p t (rdN p t)).IC.length R by rw[E.out];exact n);have ab:=hid (show c<(wkP p t (rdN p t)).IC.length by rw[E.out];exact S);rw[hdm] at aq;go_enter Tryz.func27,Tryz.ntmps27
   go_wp2_with fail
   refine L.mono ?_;rintro r w1 ⟨rfl,a⟩;have z:=(a.cell (aj _ _ A)).trans A;have f:=hid (btr (bal (ag W.heap.size W) (.cells #[.pointer (some ⟨wb,0,none⟩)] 50)) a);have F:=hid f.size;have g:=hid (show Below w1.heap.size w1 (w1.alloc (.cells #[.int .i64 m] 3)) from bal (ag w1.heap.size w1) (.cells #[.int .i64 m] 3));have b:=hid (show jf [(W.heap.size,.pointer (some ⟨wb,0,none⟩)),(w1.heap.size,.int .i64 m)] (fX tag W.heap.size 0) (w1.alloc (.cells #[.int .i64 m] 3)) from fun x G=>by
    simp only[bI,dc,or_false] at G;rcases G with rfl|rfl
    ·exact⟨(g.cell (aj _ _ z)).trans z,by unfold fX;rw[ae (Nat.lt_irrefl _)]⟩
    ·exact⟨bM w1 #[.int .i64 m] 3 0,by unfold fX;rw[ae (by have:=F.out;omega)]⟩)
   have e:=hid ((BR.below f).below g);have M:=hid (KR.trans (.below (btr f g)));clear a L A;go_upto_region 2 with fail
   generalize fX tag W.heap.size 0=tg at*;generalize World.alloc _ _=w2 at*;generalize an:w1.heap.size=v at*;clear z f F g an;generalize ao:W.heap.size=d at b ⊢;clear ao;have s:=hid (eO tg w2);have c6:w2.cell? ⟨wb,6,none⟩=some (.slice (some ⟨w,0,none⟩) p.IC.length R):=by rw[ai e.r (k:=6) rfl,n.out]
   have U:w2.cell? ⟨w,c,none⟩=some (.int .i64 t):=by rw[(e.IJ n av).1,HZ.out]
   have j:=(b.kt s (d,.pointer (some ⟨wb,0,none⟩)) oS).1;have Q:=(b.kt s (v,.int .i64 m) oS).1;have HI:=hid (aq.out w2 tg d v e j Q);go_wp2_with fail
   refine HI.mono ?_;rintro r w3 ⟨rfl,a⟩;have B3:=hid (e.below a);have K3:=hid (s.trans (.below a));have j:=(b.kt K3 (d,.pointer (some ⟨wb,0,none⟩)) oS).1;go_wp2_with fail
   refine (aD.out _ _ B3).mono ?_;rintro r w4 ⟨rfl,ap,N,O⟩;have B4:=hid N;have K4:=hid (K3.trans O);have c6:=bh B4 n;have U:w4.cell? ⟨w,c,none⟩=some (.int .i64 (-1)):=by rw[(B4.IJ ad ab).1,ax.out]
   have j:=(b.kt K4 (d,.pointer (some ⟨wb,0,none⟩)) oS).1;have Q:=(b.kt K4 (v,.int .i64 m) oS).1;have B:=hid (tN wb ap V (wkP p t (rdN p t)) m d v c w4 B4 al ay am j Q);rcases CL (q:=wkP p t (rdN p t)) (m:=m) (c:=c) am 4 with y|⟨u,y,aA⟩
   ·have J:=hid (show snx (wkP p t (rdN p t)) m c=wkP p t (rdN p t) from ah y);rw[y] at B;go_wp2_with fail
    refine B.mono ?_;rintro r Y ⟨rfl,a⟩;have H:=hid (B4.below a);have C:=hid (K4.trans (.below a));go_wp2_with fail
    exact aT (aI rfl _ _ _) rfl ⟨rfl,ap,by rw[K.out,J.out];exact H,M.trans C⟩
   ·have J:=hid (show snx (wkP p t (rdN p t)) m c={lvP (wkP p t (rdN p t)) u with IC:=(lvP (wkP p t (rdN p t)) u).IC.set c u} by unfold snx;rw[y,ae oA,af]);rw[y] at B;have aF:¬((u:Int)= -1):=oA;have aE:((u:Int)== -1)=false:=oS;have aw:=hid (fun X (h:di X wb ap V (wkP p t (rdN p t)))=>lr wb ap V (wkP p t (rdN p t)) u X h al aA);go_wp2_with fail
    refine B.mono ?_;rintro r Y ⟨rfl,a⟩;have H:=hid (B4.below a);have C:=hid (K4.trans (.below a));have j:=(b.kt C (d,.pointer (some ⟨wb,0,none⟩)) oS).1;go_wp2_with fail
    refine (aw.out _ H).mono ?_;rintro r Z ⟨rfl,N,O⟩;have I:=hid N;have KZ:=hid (C.trans O);have j:=(b.kt KZ (d,.pointer (some ⟨wb,0,none⟩)) oS).1;have c6:=bh I n;have E:=hid (show (lvP (wkP p t (rdN p t)) u).IC.length=(wkP p t (rdN p t)).IC.length by unfold lvP;simp);have e6:=hid (show V 6=.slice (some ⟨w,0,none⟩) (lvP (wkP p t (rdN p t)) u).IC.length R by rw[E.out];exact ad);obtain⟨U,f6⟩:=I.IJ e6 (i:=c) (by rw[E.out];exact ab);obtain⟨b7,k7⟩:=I.IK e6 c (u:Int);have B7:=hid b7;have K7:=hid (KZ.trans k7);go_wp2_with fail
    exact aT (aI rfl _ _ _) rfl ⟨rfl,ap,by rw[K.out,J.out];exact B7,M.trans K7⟩
theorem jQ (wb:Nat) (tag:Nat->Nat) (V:Nat->Value) (p:PW) (W:World) (bt:di W wb tag V p) (f:p.Fits) (A:1<=p.IF.length) (B:0<=p.time∧p.time<=1000000):
  Calls Tryz.prog 80 #[.pointer (some ⟨wb,0,none⟩)] W fun r e=>r=.returned (.int .i64 (tnV p))∧∃n,e=W.drewN n:=by
 have k:=bh bt bt.o.time;obtain⟨q,m,e9⟩:=bt.o.IF.form oA;have l:=bh bt e9;have b:=bt.o.IF;rw[e9] at b;have v:(p.IF.length:Int)<=1000:=by have:=f.IF;omega
 have z:(p.time).tdiv 4=p.time/4:=bP oA;have g:(p.time/4).tmod (p.IF.length:Int)=(p.time/4)%(p.IF.length:Int):=cD oA;have w:0<=(p.time/4)%(p.IF.length:Int):=eJ _ oA;have x:(p.time/4)%(p.IF.length:Int)<(p.IF.length:Int):=eF _ oA;obtain⟨j,c⟩:∃j:Nat,(p.time/4)%(p.IF.length:Int)=j:=⟨((p.time/4)%(p.IF.length:Int)).toNat,oA⟩
 have d:j<p.IF.length:=oA;have u:(j:Int)<(p.IF.length:Int):=oA;have h:=b.int d;have a:=hid (show tnV p=p.IF[j] by unfold tnV;rw[c,af,aa,ac d,aG]);generalize p.IF[j]=y at h a;rw[c] at g;have D:((p.IF.length:Int)==0)=false:=by simpa using show ¬((p.IF.length:Int)=0) by omega
 have E:¬((p.IF.length:Int)=0):=oA;have s:0<=p.time/4:=oA;have t:p.time/4<=250000:=oA;generalize p.time/4=F at*;go_enter Tryz.func80,Tryz.ntmps80
 go_upto_region 1 with fail
 go_quiet (fail)
 have BS:=hid (show ∃n,W.drewN nq=W.drewN n from⟨nq,rfl⟩);generalize C:W.drewN nq=i at BS ⊢;go_wp2_with fail
 go_ret
 exact⟨by rw[a.out];rfl,BS.out⟩
theorem sR {w:World} {base:Nat} {v:Value} {zs:List Int} (l:w.ownsRow base 3 1 v zs.length (d6 zs)) (h:base<=w.heap.size) (hl:zs.length<=1000) {b o c:Nat} {ys:List Int} (B:ys.length<=1000) (s:∀j (a:j<ys.length),w.cell? ⟨b,o+j,none⟩=some (.int .i64 ys[j])):
  ∃q d w',(Builtin.append_ #[22,22] 22 #[v,.slice (some ⟨b,o,none⟩) ys.length c]).run Tryz.prog w=.ok (.slice q (zs.length+ys.length) d) w'∧w'.ownsRow base 3 1 (.slice q (zs.length+ys.length) d) (zs++ys).length (d6 (zs++ys))∧Below base w w':=by
 obtain⟨i,hi,A,u,z⟩:=fj j0;obtain⟨C,w',t,g,p,_⟩:=run_append_own (P:=Tryz.prog) w base 22 22 3 i (.int .i64 0) 1 8 Tryz.underlying22 hi A u z rfl oD v zs.length (d6 zs) l ⟨b,o,none⟩ ys.length c (d6 ys) (by unfold d6;simp) (fun j v a=>by
  unfold d6 at a;rw[cW] at a
  cases e:ys[j]? with
  |none=>rw[e] at a;cases a
  |some y=>
   rw[e] at a
   cases a
   obtain⟨n,r⟩:=List.getElem?_eq_some_iff.1 e;have:=s j n;rw[r] at this;by_cases f:j=0
   ·subst f;simpa [Addr.add] using this
   ·simpa [Addr.add,f] using this) (fun x m=>by
  unfold d6 at m;obtain⟨y,_,rfl⟩:=List.mem_map.1 m;rfl) (by unfold maxLen;omega) oA h
 obtain⟨q,cap,rfl⟩:=eN g;have e:d6 zs++d6 ys=d6 (zs++ys):=by unfold d6;simp
 exact⟨q,cap,w',t,by rw[<-e,ax];exact g,(ag base w).grown p h (fun k hk=>(l.lt k hk).1)⟩
theorem AK (x:Int) (a b:List Int):cn x (a++b)=cn x a+cn x b:=by
 unfold cn ec;rw[ew,List.sum_append_nat]
theorem mx {x:Int} {l:List Int} {i:Nat} (hi:i<l.length) (c:l[i]=x):cn x l=cn x (l.take i)+1+cn x (l.drop (i+1)):=by
 have e:l=l.take i++(l[i]::l.drop (i+1)):=by rw[List.getElem_cons_drop,List.take_append_drop]
 have a:cn x (l[i]::l.drop (i+1))=1+cn x (l.drop (i+1)):=by
  unfold cn ec;rw[aW,ct];unfold one;rw[ah c]
 have b:cn x l=cn x (l.take i++(l[i]::l.drop (i+1))):=by rw[<-e]
 rw[b,AK,a];omega
theorem Cm {x:Int} {l:List Int} {i:Nat} (hi:i<l.length) (c:l[i]=x) (f:cn x l=1):dM (fun y=>y==x) l=l.take i++l.drop (i+1):=by
 have g:=mx hi c;have e:l=l.take i++(l[i]::l.drop (i+1)):=by rw[List.getElem_cons_drop,List.take_append_drop]
 have a:dM (fun y=>y==x) (l.take i)=l.take i:=kD oA;have b:dM (fun y=>y==x) (l.drop (i+1))=l.drop (i+1):=kD oA;have d:dM (fun y=>y==x) l=dM (fun y=>y==x) (l.take i++(l[i]::l.drop (i+1))):=by rw[<-e]
 rw[d];unfold dM at a b ⊢;rw[eE,eW (by simp[c]),a,b]
theorem vJ {x:Int}:∀{ls:List (List Int)} {a:Nat} (b:a<ls.length),cn x ls[a]<=cna x ls
 |[],_,b=>by simp at b
 |l::r,0,_=>by
  unfold cna ec;rw[aW,ct];exact Nat.le_add_right _ _
 |l::r,a+1,b=>by
  have h:=vJ (x:=x) (ls:=r) (a:=a) (by simpa using b);unfold cna ec at h ⊢;rw[aW,ct];simp only[aX];omega
theorem xf {x:Int}:∀{ls:List (List Int)} {a:Nat} (d:a<ls.length) {i:Nat} (hi:i<ls[a].length),ls[a][i]=x->cna x ls=1->lvs x ls=ls.set a (ls[a].take i++ls[a].drop (i+1))
 |[],_,d,_,_,_,_=>by simp at d
 |l::r,0,_,i,hi,hx,h=>by
  simp only[aS] at hi hx ⊢;have g:=mx hi hx;have c:cn x l=1∧cna x r=0:=by
   unfold cna ec at h ⊢;rw[aW,ct] at h;omega
  have b:=gE c.2;unfold lvs at b ⊢;rw[aW,b,List.set_cons_zero,Cm hi hx c.1]
 |l::r,a+1,d,i,hi,hx,h=>by
  simp only[aX] at hi hx ⊢;have f:a<r.length:=by simpa using d
  have g:=mx hi hx;have c:=vJ (x:=x) f;have b:cna x r=1∧cn x l=0:=by
   unfold cna ec at h c ⊢;rw[aW,ct] at h;omega
  have e:=xf f hi hx b.1;unfold lvs at e ⊢;rw[aW,e,List.set_cons_succ,kD b.2]
theorem sU {x y:Int} (a:y≠x):∀(ls:List (List Int)) (n:Nat),cna x (ls.set n (ls.getD n []++[y]))=cna x ls
 |[],_=>rfl
 |l::r,0=>by
  simp only[List.set_cons_zero];have h:cn x (l++[y])=cn x l:=by
   rw[AK];unfold cn ec one;simp[a]
  unfold cna ec;rw[aW,ct,aW,ct];show cn x ((l::r).getD 0 []++[y])+_=_
  simp only[List.getD_cons_zero];rw[h]
 |l::r,n+1=>by
  have h:=sU a r n;simp only[List.set_cons_succ,List.getD_cons_succ];unfold cna ec at h ⊢;rw[aW,ct,aW,ct,h]
def rnx (q:PW) (m:Int) (c:Nat):Nat->PW
 |0=>q
 |k+1=>if 0<=ixP (dmB q m) (q.ready.getD (c*4+k) []) then {q with IC:=q.IC.set c ((q.ready.getD (c*4+k) []).getD (ixP (dmB q m) (q.ready.getD (c*4+k) [])).toNat 0),ready:=q.ready.set (c*4+k) ((q.ready.getD (c*4+k) []).take (ixP (dmB q m) (q.ready.getD (c*4+k) [])).toNat++(q.ready.getD (c*4+k) []).drop ((ixP (dmB q m) (q.ready.getD (c*4+k) [])).toNat+1))} else rnx q m c k
def rlP (p:PW) (c:Nat):PW:=if p.IC.getD c (-1)= -1 then rnx p (tnV p) c 4 else if dmB p (tnV p) (p.IC.getD c (-1)) then p else rnx (wnP {p with IC:=p.IC.set c (-1)} (p.IC.getD c (-1)).toNat (rdN p (p.IC.getD c (-1)).toNat)) (tnV p) c 4
