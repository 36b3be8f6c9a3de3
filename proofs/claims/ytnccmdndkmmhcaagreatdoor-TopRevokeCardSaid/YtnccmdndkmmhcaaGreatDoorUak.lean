/- Uak -/
import Derived.Maps.AppendAt
import Derived.Test.YtnccmdndkmmhcaaGreatDoorUaj
set_option maxRecDepth 100000
set_option maxHeartbeats 16000000
namespace Go.Proofs.YtnccmdndkmmhcaaGreatDoor
namespace Wd
open Go.RowKit Mem Bw Nums Mmu
abbrev PW.s (p:PW) (i:Nat):Nat->Int:=p.IH.getD i eS
abbrev PW.k (p:PW) (f:Nat):Int:=p.kinds.getD f 0
def nfl (S:List (Nat->Int)):Nat:=S.countP fun f=>f 0 !=0
structure vN (p:PW) (s:Nat->Int):Prop where
 c:kc s=0
 le:s 1+s 2<=(p.kinds.length:Int)
 is:s 0=1∨isB p (s 1) (s 0)=true
structure Keys (p:PW) (r:Nat->Nat):Prop where
 em:∀i,p.s i 0=0->(∀k,k<6->p.s i k=0)∧p.s i 6= -1
 nd:∀i,p.s i 0≠0->p.k (i/16)=5
 key:∀i,p.s i 0≠0->vN p (p.s i)
 up:∀i,p.s i 6= -1∨∃u:Nat,p.s i 6=u∧u<p.IH.length∧p.s u 0≠0∧cmB (p.s u) (p.s i)=true∧r u<r i
 rk:∀i,p.s i 0≠0->r i<nfl p.IH
 one:∀(n:Int) i j,clI n (p.s i)=true->clI n (p.s j)=true->i=j
 op:∀n,p.k n≠0->∃i,i<p.IH.length∧opn n (p.s i)=true
 us:∀n,p.k n≠0->∀i,un n (p.s i)=false
 gp:∀i,p.s i 0≠0->p.s i 0≠1->p.s i 6= -1->∀c,clI (p.s i 1) (p.s c)=false
theorem tb {p:PW} {i:Nat} (h:i<p.IH.length):p.IH[i]=p.s i:=by
 show _=p.IH.getD i eS
 rw[aa,ac h];rfl
theorem FY {p:PW} {i:Nat} (h:p.IH.length<=i):p.s i=eS:=by
 show p.IH.getD i eS=_
 rw[aa,aI h];rfl
theorem rY {p:PW} {i:Nat} (h:p.s i 0≠0):i<p.IH.length:=by
 rcases cP i p.IH.length with a|a
 ·exact a
 ·rw[FY a] at h;exact absurd rfl h
theorem vK {p:PW} {f:Nat} (h:f<p.kinds.length):p.kinds[f]=p.k f:=by
 show _=p.kinds.getD f 0
 rw[aa,ac h];rfl
theorem lg {p:PW} {f:Nat} {k:Int} (h:f<p.kinds.length):isB p f k=(p.k f==k):=by
 unfold isB;rw[fZ h,vK h];rfl
theorem iN {p:PW} {f:Nat} (h:p.k f≠0):f<p.kinds.length:=by
 rcases cP f p.kinds.length with a|a
 ·exact a
 ·exact absurd (show p.kinds.getD f 0=0 by rw[aa,aI a];rfl) h
theorem fE {p:PW} {a k:Int} (h:isB p a k=true):∃f:Nat,a=f∧f<p.kinds.length∧p.k f=k:=by
 unfold isB fH at h;split at h
 ·rename_i h0;obtain⟨f,rfl⟩:∃f:Nat,a=f:=⟨a.toNat,oA⟩
  rw[ah] at h;have c:=eq_of_beq h;obtain⟨b,d⟩:=List.getElem?_eq_some_iff.1 c;exact⟨f,rfl,b,by rw[<-vK b];exact d⟩
 ·cases h
theorem Fx (S:List (Nat->Int)):nfl S<=S.length:=List.countP_le_length
theorem pY {p:PW} {u:Nat} (h:u<p.IH.length):fL p u=true:=az ⟨oA,oA⟩
theorem Keys.ends {p:PW} {r:Nat->Nat} (h:Keys p r):∀(n u:Nat),p.s u 0≠0->r u<n->fL p (Wd.up p n u)=false
 |0,_,_,h0=>oA
 |n+1,u,hu,h0=>by
  have hl:=rY hu;have e:(p.IH.getD ((u:Int)).toNat (fun _=> -1)) 6=p.s u 6:=by
   rw[ah,aa,ac hl, <-tb hl];rfl
  rw[Wd.up,ag (pY hl),e];rcases h.up u with a|⟨v,a,_,b,_,c⟩
  ·rw[a,DB (by exact aw oA)];exact aw oA
  ·rw[a];exact h.ends n v b oA
theorem Keys.b3 {p:PW} {r:Nat->Nat} (h:Keys p r):∀k (hk:k<p.IH.length),DN p k p.IH[k]=false:=fun k hk=>by
 rw[tb hk];unfold DN bsB;by_cases b:p.s k 0=0
 ·obtain⟨a,d⟩:=h.em k b;have g:zkB (p.s k)=true:=az ⟨b,a 1 oD,a 2 oD,a 3 oD,a 4 oD,a 5 oD⟩;rw[ag g,d];rfl
 ·have g:zkB (p.s k)=false:=aw (fun h=>b h.1);obtain⟨k1,k2,f⟩:=h.key k b;have n:opB p (p.s k)=true:=by
   unfold opB;rw[k1,az k2];rcases f with f|f
   ·rw[f];rfl
   ·rw[f];simp
  have m:p.kinds.getD (k/16) 0=5:=h.nd k b;have j:mdB p (p.s k)=true∧yQ p (p.s k 6)=false:=by
   unfold mdB yQ;rcases h.up k with a|⟨u,a,d,i,l,o⟩
   ·rw[a,DB (by exact aw oA)];exact⟨rfl,aw oA⟩
   ·have e:zy p (p.s k)=p.s u:=by
     unfold zy;rw[a,ah,aa,ac d, <-tb d];rfl
    rw[e,(h.key u i).c,l,a,pY d];refine⟨oS,h.ends _ u i ?_⟩;have:=h.rk k b;have:=Fx p.IH;omega
  rw[ae (by rw[g];decide),m,n,j.1,j.2];rfl
theorem jO {α:Type} {g:α->Nat}:∀(l:List α),(∀j (c:j<l.length),g l[j]=0)->ez g l=0
 |[],_=>by simp[ez]
 |x::l,h=>by
  have a:=jO l (fun j c=>h (j+1) (by simp;omega));have b:g x=0:=h 0 oS;unfold ez at a ⊢;simp only[cd,ex];rw[a,b]
theorem yA {α:Type} {q:α->Bool}:∀(l:List α),(∀i j (hi:i<l.length) (e:j<l.length),q l[i]=true->q l[j]=true->i=j)->ez (fun x=>if q x then 1 else 0) l<=1
 |[],_=>by simp[ez]
 |x::l,h=>by
  have f:=yA l (fun i j hi e a b=>by have:=h (i+1) (j+1) (by simp;omega) (by simp;omega) a b;omega);unfold ez at f ⊢;simp only[cd,ex];by_cases c:q x=true
  ·have d:=jO (g:=fun x=>if q x then 1 else 0) l (fun j e=>by
    cases hq:q l[j] with
    |false=>rfl
    |true=>have:=h 0 (j+1) oS (by simp;omega) c hq;omega)
   unfold ez at d;rw[ag c,d];exact aq _
  ·rw[ae c];omega
theorem Keys.b4 {p:PW} {r:Nat->Nat} (h:Keys p r):∀k (hk:k<p.kinds.length),D9 p k p.kinds[k]=false:=fun k hk=>by
 rw[vK hk];unfold D9 bfB;have l:ez (cl (k:Int)) p.IH<=1:=yA (q:=clI (k:Int)) p.IH (fun i j hi e a b=>by
  rw[tb hi] at a;rw[tb e] at b;exact h.one k i j a b)
 rw[aw oA,eU];by_cases d:p.k k=0
 ·rw[d];rfl
 ·have c:p.IH.any (opn (k:Int))=true:=by
   obtain⟨i,hi,c⟩:=h.op k d;rw[<-tb hi] at c;exact List.any_eq_true.2 ⟨_,av hi,c⟩
  have f:p.IH.any (un (k:Int))=false:=by
   rw[bO];intro x g;obtain⟨j,e,rfl⟩:=dC g;rw[tb e,h.us k d j]
   decide
  rw[c,f];simp
def dz {α:Type} (p:α->Bool) (l:List α):List α:=l.filter fun e=> !p e
structure oM {α:Type} (p:α->Bool) (l m:List α) (i j:Nat):Prop where
 lt:i<j
 le:j<=l.length
 len:m.length=l.length
 lo:m.take i=dz p (l.take j)
 hi:m.drop j=l.drop j
section
variable {α : Type} {p : α -> Bool} {l m : List α} {i j : Nat}
theorem oM.start (h:l.findIdx p<l.length):oM p l l (l.findIdx p) (l.findIdx p+1):=by
 refine⟨oA,oA,rfl,?_,rfl⟩;unfold dz;rw[bG h,eT];have b:(l.take (l.findIdx p)).filter (fun e=> !p e)=l.take (l.findIdx p):=by
  rw[List.filter_eq_self];intro a d;obtain⟨k,hk,rfl⟩:=List.mem_iff_getElem.1 d;rw[List.getElem_take];rw[bH] at hk;have:=List.not_of_lt_findIdx (p:=p) (xs:=l) (i:=k) oA;simpa using this
 have c:=List.findIdx_getElem (w:=h);rw[b,List.filter_cons_of_neg (by simp[c])];simp
theorem oM.at (h:oM p l m i j) (a:j<l.length) (b:j<m.length):m[j]=l[j]:=by
 have:=dF (fun x=>x[0]?) h.hi;simp only[dL,bu] at this;rw[ac b,ac a] at this;exact aK this
theorem oM.skip (h:oM p l m i j) (a:j<l.length) (b:p l[j]=true):oM p l m i (j+1):=by
 refine⟨by have:=h.lt;omega,oA,h.len,?_,?_⟩
 ·rw[h.lo];unfold dz;rw[bG a,eT,List.filter_cons_of_neg (by simp[b])];simp
 ·rw[<-List.drop_drop,h.hi,List.drop_drop]
theorem oM.Js (h:oM p l m i j) (a:j<l.length) (b:p l[j]=false):oM p l (m.set i l[j]) (i+1) (j+1):=by
 have d:=h.lt;have c:=h.len;refine⟨oA,oA,by rw[au,h.len],?_,?_⟩
 ·rw[bG (by rw[au];omega),List.take_set_of_le (aq _),h.lo,dV];unfold dz;rw[bG a,eT,List.filter_cons_of_pos (by simp[b])];simp
 ·rw[List.drop_set_of_lt oA, <-List.drop_drop,h.hi,List.drop_drop]
theorem oM.done (h:oM p l m i l.length):dz p l=m.take i:=by
 rw[h.lo,cO]
theorem qI (h:¬l.findIdx p<l.length):dz p l=l:=by
 unfold dz;rw[List.filter_eq_self];intro a b;obtain⟨k,hk,rfl⟩:=List.mem_iff_getElem.1 b;have:=List.not_of_lt_findIdx (p:=p) (xs:=l) (i:=k) oA;simpa using this
end
def ixP {α:Type} (p:α->Bool) (l:List α):Int:=if l.findIdx p<l.length then (l.findIdx p:Int) else -1
theorem Af {w:World} {B e g n cap:Nat} {xs:List Value} (h:w.ownsRow B e 1 (.slice (some ⟨g,0,none⟩) n cap) n xs) (i:Nat) (hi:i<=n):w.ownsRow B e 1 (.slice (some ⟨g,0,none⟩) i cap) i (xs.take i):=by
 have hl:=h.1;rcases h.2 with ⟨a,_⟩|⟨m,l,b,a,c,j,o,d,f,k⟩
 ·simp at a
 ·simp only[Value.slice.injEq,bJ,Addr.mk.injEq,and_true,true_and] at a;obtain⟨rfl,rfl⟩:=a;refine⟨by rw[bH];omega,.inr ⟨g,cap,b,rfl,c,j,oA,d,f,?_⟩⟩;rw[<-k,List.take_take,Nat.min_eq_left oA,Nat.mul_one]
theorem oy {B e g n cap:Nat} (i:Nat):∀(L:List Value) (o:Nat) (w:World) (xs:List Value),w.ownsRow B e 1 (.slice (some ⟨g,0,none⟩) n cap) n xs->i<=o->
  ∃ys,(w.setCells g o L).ownsRow B e 1 (.slice (some ⟨g,0,none⟩) n cap) n ys∧ys.take i=xs.take i∧w.grownBy (w.setCells g o L) (some g)
 |[],o,w,xs,h,_=>⟨xs,h,rfl,⟨rfl,rfl,rfl,aq _,fun _ _ _=>rfl⟩⟩
 |v::r,o,w,xs,h,ho=>by
  obtain⟨c,a⟩:=h.stored o v;obtain⟨ys,d,e2,b⟩:=oy i r (o+1) _ _ c oA;refine⟨ys,d,?_,a.trans b⟩;rw[e2,List.take_set_of_le oA]
theorem uV {w:World} {B g n cap:Nat} {xs:List Value} (h:w.ownsRow B 3 1 (.slice (some ⟨g,0,none⟩) n cap) n xs) (i:Nat) (hi:i<n) (q:TypeId) (c:Nat):
  ∃w',(Builtin.clear_ #[22] q #[.slice (some ⟨g,i,none⟩) (n - i) c]).run Tryz.prog w=.ok (.tuple #[]) w'∧w'.ownsRow B 3 1 (.slice (some ⟨g,0,none⟩) i cap) i (xs.take i)∧w.grownBy w' (some g):=by
 obtain⟨m,o⟩:∃m,n - i=m+1:=⟨n - i - 1,oA⟩
 obtain⟨L,a⟩:∃L,(Builtin.zeroCells (Value.int .i64 0).cells (n - i)).toList=L:=⟨_,rfl⟩
 have s:L.length=n - i:=by
  rw[<-a];simp[Builtin.zeroCells,Value.cells]
 have p:∀v∈L,v.oneCell'=true:=by
  intro v hv;rw[<-a] at hv;simp[Builtin.zeroCells,Value.cells] at hv;obtain⟨k,_,rfl⟩:=hv;simp[Nat.mod_one,Value.oneCell']
 obtain⟨ys,e,e2,d⟩:=oy i L i w xs h (aq _);have f:∀j,j<L.length->(w.cell? ⟨g,i+0+j,none⟩).isSome=true:=fun j r=>by
  rw[h.cellAt _ oA];have:=h.1;rw[ac oA];rfl
 have l:∀j,j<L.length->w.frozen? ⟨g,i+0+j,none⟩=false:=fun j _=>h.frozenAt _;have b:=run_storeCells_cells (P:=Tryz.prog) g i L 0 w f l p;simp only[bu] at b;refine⟨w.setCells g i L,?_,?_,d⟩
 ·rw[o] at a ⊢;simp[Builtin.clear_,run_underlying Tryz.underlying22,a,b]
 ·have:=Af e i oA;rw[e2] at this;exact this
theorem zM {w w':World} {g:Nat} (h:w.grownBy w' (some g)):Kp (fun k=>k=g) w w':=⟨h.os,h.tape,h.output,h.size,fun k hk a=>h.block k hk (fun e=>a (aK e))⟩
theorem isT (x t:Int) (c:Nat) (w:World) (a:w.cell? ⟨c,0,none⟩=some (.int .i64 t)):Calls Tryz.prog 252 #[.int .i64 x,.pointer (some ⟨c,0,none⟩)] w fun r w'=>r=.returned (.bool (x==t))∧w=w':=by
 go_enter Tryz.func252,Tryz.ntmps252
 go_wp2_with fail
 go_ret
 exact⟨rfl,rfl⟩
theorem sH (v:Value) (l:List Int) (c:Nat) (t:Int) (w:World) (E:w.ownsRow 0 3 1 v l.length (dU l)) (hl:l.length<=1000) (F:w.cell? ⟨c,0,none⟩=some (.int .i64 t)):
  Calls Tryz.prog 259 #[v,.func (.func 252) #[] #[.pointer (some ⟨c,0,none⟩)]] w fun r w'=>r=.returned (.int .i64 (ixP (fun x=>x==t) l))∧w=w':=by
 obtain⟨q,b,off,cap,rfl,H,J⟩:=dN E;have L:(l.length:Int)<=1000:=oA;have u:=hid H;have A:=hid J;have z:=hid (fun x=>isT x t c w F);go_enter Tryz.func259,Tryz.ntmps259
 go_wp2_with fail
 go_loopw [8] (fun i wr=>∃(k:Nat),k<=l.length∧i=.int .i64 k∧Hid (w=wr∧∀j (a:j<l.length),j<k->(l[j]==t)=false)) (fun i _=>l.length - (intOf i).toNat)
 case atStart=>exact⟨0,oA,rfl,hid ⟨rfl,fun j _ h=>oA⟩⟩
 case round=>
  obtain⟨k,hk,rfl,p⟩:=hrel;obtain⟨rfl,G⟩:=p.out;have d:=hid G;by_cases g:k<l.length
  ·have M:(k:Int)<(l.length:Int):=oA;have I:=u.out oA;subst I;have B:=A.out k g;obtain⟨y,o⟩:∃y,l[k]=y:=⟨_,rfl⟩
   rw[o] at B;have m:=hid o;go_wp2_with fail
   refine (z.out y).mono ?_;rintro r w1 ⟨rfl,rfl⟩
   cases hyt:(y==t) with
   |true=>
    have f:=hid (show ixP (fun x=>x==t) l=k by
     have C:l.findIdx (fun x=>x==t)=k:=by
      rw[List.findIdx_eq g];exact⟨by rw[m.out];exact hyt,fun j a=>d.out j oA a⟩
     unfold ixP;rw[C,ag g])
    go_wp2_with fail
    go_ret
    exact⟨by rw[f.out];rfl,rfl⟩
   |false=>
    have s:=hid (show w=w∧∀j (a:j<l.length),j<k+1->(l[j]==t)=false from⟨rfl,fun j a h=>by
     by_cases e:j=k
     ·subst e;rw[m.out];exact hyt
     ·exact d j a oA⟩)
    go_wp2_with fail
    exact⟨⟨k+1,oA,by go_num,s⟩,by simp[intOf];omega⟩
  ·obtain rfl:k=l.length:=oA;have K:¬((l.length:Int)<(l.length:Int)):=oA;have f:=hid (show ixP (fun x=>x==t) l= -1 by
    unfold ixP;rw[ae];intro h;have n:=List.findIdx_getElem (w:=h);have D:=d.out _ h h;rw[D] at n
    cases n)
   go_wp2_with fail
   go_ret
   exact⟨by rw[f.out];rfl,rfl⟩
theorem xi (l:List Int) (i:Nat):(dU l).take i=dU (l.take i):=by
 unfold dU;rw[List.map_take]
theorem Fc (l:List Int) (i:Nat) (h:i<l.length):(dU l)[i]? =some (.int .i64 l[i]):=by
 unfold dU;rw[db,ac h];rfl
theorem qz (v:Value) (l:List Int) (c:Nat) (t:Int) (w:World) (F:w.ownsRow 0 3 1 v l.length (dU l)) (hl:l.length<=1000) (G:w.cell? ⟨c,0,none⟩=some (.int .i64 t)) (T:v.ownBlock≠some c):
  Calls Tryz.prog 251 #[v,.func (.func 252) #[] #[.pointer (some ⟨c,0,none⟩)]] w fun r w'=>∃u,r=.returned u∧w'.ownsRow 0 3 1 u (dz (fun x=>x==t) l).length (dU (dz (fun x=>x==t) l))∧u.ownBlock=v.ownBlock∧Kp (fun k=>v.ownBlock=some k) w w':=by
 have ap:(l.length:Int)<=1000:=oA;have O:=hid (sH v l c t w F hl G);have d:=hid F;have A:=hid G;go_enter Tryz.func251,Tryz.ntmps251
 go_wp2_with fail
 refine O.mono ?_;rintro r w1 ⟨rfl,rfl⟩;by_cases q:l.findIdx (fun x=>x==t)<l.length
 ·have s:=hid (show ixP (fun x=>x==t) l=(l.findIdx (fun x=>x==t):Int) by unfold ixP;rw[ag q]);have f:=hid (oM.start q);rw[s.out];generalize l.findIdx (fun x=>x==t)=k at*;have an:¬((k:Int)= -1):=oA;have ao:((k:Int)== -1)=false:=oS;obtain⟨g,cap,rfl⟩:∃g cap,v=.slice (some ⟨g,0,none⟩) l.length cap:=by
   rcases d.2 with ⟨_,h⟩|⟨g,cap,X,h,_⟩
   ·omega
   ·exact⟨g,cap,h⟩
  have U:g≠c:=fun e=>T (by rw[e];rfl);go_wp2_with fail
  go_loopw [5,6] (fun a b wr=>∃(i j:Nat) (m:List Int),a=.int .i64 i∧b=.int .i64 j∧Hid (oM (fun x=>x==t) l m i j)∧Hid (wr.ownsRow 0 3 1 (.slice (some ⟨g,0,none⟩) l.length cap) l.length (dU m))∧Hid (Kp (fun k=>k=g) w wr)) (fun _ b _=>l.length - (intOf b).toNat)
  case atStart=>exact⟨k,k+1,l,rfl,by go_num,f,d,hid (aV _ _)⟩
  case round=>
   obtain⟨i,j,m,rfl,rfl,f,d,n⟩:=hrel;have V:=f.lt;have am:=f.le;have y:=hid f.len;have ad:¬((i:Int)<0):=oA;have al:¬((j:Int)<0):=oA;have af:(i:Int)<(l.length:Int):=oA;by_cases o:j<l.length
   ·have ai:(j:Int)<(l.length:Int):=oA;have D:=hid (f.skip o);have C:=hid (f.Js o);have H:j<m.length:=by rw[y.out];exact o
    have W:i<m.length:=by rw[y.out];omega
    have E:=(d.cellAt j oA).trans (Fc m j H);rw[f.at o H] at E;have ci:=(d.cellAt i oA).trans (Fc m i W);have Y:=d.frozenAt i;have N:=hid (fun x=>isT x t c wr ((n.cell (p:=⟨c,0,none⟩) (aj _ _ A) (fun e=>U e.symm)).trans A));generalize l[j]=e at E D C;generalize m[i]=e2 at ci;go_wp2_with fail
    refine (N.out e).mono ?_;rintro r w2 ⟨rfl,rfl⟩
    cases hpe:(e==t) with
    |true=>
     have z:=hid (D.out hpe);go_wp2_with fail
     exact⟨⟨i,j+1,m,rfl,by go_num,z,d,n⟩,by simp[intOf];omega⟩
    |false=>
     have z:=hid (C.out hpe);have M:=hid (show (wr.setCell ⟨g,i,none⟩ (.int .i64 e)).ownsRow 0 3 1 (.slice (some ⟨g,0,none⟩) l.length cap) l.length (dU (m.set i e)) by rw[<-ints_set];exact (d.stored i (.int .i64 e)).1);have J:=hid (show Kp (fun k=>k=g) w (wr.setCell ⟨g,i,none⟩ (.int .i64 e)) from n.setCell (.inl rfl) _);go_wp2_with fail
     exact⟨⟨i+1,j+1,m.set i e,by go_num,by go_num,z,M,J⟩,by simp[intOf];omega⟩
   ·obtain rfl:j=l.length:=oA;have ac:¬((l.length:Int)<(l.length:Int)):=oA;have B:=hid f.done;have Z:l.length<=cap:=by
     rcases d.2 with ⟨h,_⟩|⟨_,_,_,h,_,_,Q,_⟩
     ·cases h
     ·cases h;exact Q
    have aa:(l.length:Int)<=(cap:Int):=oA;have ab:(i:Int)<=(cap:Int):=oA;have ah:(i:Int)<=(l.length:Int):=oA;obtain⟨w3,aq,S,R⟩:=uV d i V 0 (cap - i);have P:=hid S;have I:=hid (n.trans (zM R));have L:=hid (show (dz (fun x=>x==t) l).length=i by rw[B.out,bH,y.out];omega);go_wp2_with fail
    go_ret
    refine⟨_,rfl,?_,rfl,I.wider (fun k _ e=>by rw[e];rfl)⟩;have:=P.out;rw[xi, <-B.out] at this;rw[L.out];exact this
 ·have s:=hid (show ixP (fun x=>x==t) l= -1 by unfold ixP;rw[ae q]);have K:=hid (qI q);rw[s.out];go_wp2_with fail
  go_ret
  refine⟨_,rfl,?_,rfl,aV _ _⟩;rw[K.out];exact d
def eY {α:Type} (f:α->α) (k:Nat) (l:List α):List α:=(l.take k).map f++l.drop k
section
variable {α : Type} (f : α -> α) (k : Nat) (l : List α)
theorem ua:(eY f k l).length=l.length:=by
 unfold eY;simp;omega
theorem _root_.Go.Proofs.YtnccmdndkmmhcaaGreatDoor.cM:type_of% @ua:= @ua
theorem fi:eY f 0 l=l:=by simp[eY]
theorem fF:eY f l.length l=l.map f:=by simp[eY]
theorem xC (hk:k<l.length) (h:k<(eY f k l).length):(eY f k l)[k]=l[k]:=by
 have e:(eY f k l)[k]? =l[k]? :=by
  unfold eY;rw[dS (by simp;omega),dL]
  congr 1
  simp;omega
 rw[ac h,ac hk] at e;exact aK e
theorem _root_.Go.Proofs.YtnccmdndkmmhcaaGreatDoor.d9:type_of% @xC:= @xC
theorem ri (hk:k<l.length):eY f (k+1) l=(eY f k l).set k (f l[k]):=by
 unfold eY;have e:k - (List.map f (List.take k l)).length=0:=by simp;omega
 rw[List.take_add_one,ac hk,eD,List.set_append,ae (by simp;omega),e];simp only[Option.toList_some,cd,eQ,List.append_assoc,List.cons_append,eC];rw[List.drop_eq_getElem_cons hk];rfl
theorem _root_.Go.Proofs.YtnccmdndkmmhcaaGreatDoor.eA:type_of% @ri:= @ri
end
def lvs (t:Int) (ls:List (List Int)):List (List Int):=ls.map (dz fun x=>x==t)
theorem kz (ls:List (List Int)) (j:Nat) (a:j<ls.length) (l:List Int):ci (ls.set j l)=fun i=>if i=j then (l.length,dU l) else ci ls i:=by
 funext i
 unfold ci;by_cases h:i=j
 ·subst h;rw[ag rfl,aa,cQ a];rfl
 ·rw[ae h,aa,cR (fun e=>h e.symm),aa]
theorem fx.at {w:World} {tag:Nat->Nat} {t c O I s n g:Nat} {a:Nat->Nat×List Value} (h:fx w tag t c O I s n (.slice (some ⟨g,0,none⟩) n n) a) {j:Nat} (k:j<n):∃u,w.cell? ⟨g,j,none⟩=some u∧InT w tag (c+3*j) I s u (a j):=by
 obtain⟨g',us,d,_,e,f,i⟩:=h;obtain rfl:g=g':=by simpa using d
 have b:j<us.length:=by rw[e];exact k
 refine⟨us[j],?_,i j b⟩;rw[f.cellAt j oA,ac b]
theorem fx.fr {w:World} {tag:Nat->Nat} {t d O I s n g:Nat} {a:Nat->Nat×List Value} (h:fx w tag t d O I s n (.slice (some ⟨g,0,none⟩) n n) a) (j:Nat):w.frozen? ⟨g,j,none⟩=false:=by
 obtain⟨g',us,b,_,_,c,_⟩:=h;obtain rfl:g=g':=by simpa using b
 exact c.frozenAt j
theorem fx.Jk {w:World} {tag:Nat->Nat} {t e O I s n g:Nat} {a:Nat->Nat×List Value} (h:fx w tag t e O I s n (.slice (some ⟨g,0,none⟩) n n) a):tag g=t∧g<w.heap.size:=by
 obtain⟨g',us,b,c,_,d,_⟩:=h;obtain rfl:g=g':=by simpa using b
 exact⟨c,(d.lt g rfl).2⟩
theorem fx.form {w:World} {tag:Nat->Nat} {t c O I s n:Nat} {v:Value} {a:Nat->Nat×List Value} (h:fx w tag t c O I s n v a):∃g,v=.slice (some ⟨g,0,none⟩) n n:=by
 obtain⟨g,_,b,_⟩:=h;exact⟨g,b⟩
theorem fx.put {w w1:World} {tag tag':Nat->Nat} {t a O I s n g:Nat} {l:Nat->Nat×List Value} (h:fx w tag t a O I s n (.slice (some ⟨g,0,none⟩) n n) l) {j:Nat} (B:j<n) (d:∀j,t≠a+3*j)
  (hk:Kp (fun b=>tag b=a+3*j) w w1) (o:∀k,k<w.heap.size->tag' k=tag k) {u:Value} {c:Nat×List Value} (z:InT w1 tag' (a+3*j) I s u c):
  fx (w1.setCell ⟨g,j,none⟩ u) tag' t a O I s n (.slice (some ⟨g,0,none⟩) n n) (fun i=>if i=j then c else l i)∧Kp (fun k=>tag k=t∨∃j,tag k=a+3*j) w (w1.setCell ⟨g,j,none⟩ u):=by
 obtain⟨f,x⟩:=h.Jk;have m:=(o g x).trans f;obtain⟨g',us,p,A,q,r,v⟩:=h;obtain rfl:g=g':=by simpa using p
 have k2:Kp (fun b=>tag' b=t) w1 (w1.setCell ⟨g,j,none⟩ u):=Kp.setCell (T:=fun b=>tag' b=t) (aV _ w1) (.inl m) u;refine⟨⟨g,us.set j u,rfl,m,by rw[au];exact q,?_,fun i hi=>?_⟩,?_⟩
 ·exact ((iy r hk (fun k e=>by
   have:g=k:=by simpa [Value.ownBlock] using e
   rw[<-this,f];exact d j)).stored j u).1
 ·have y:i<us.length:=by rwa [au] at hi
  by_cases e:i=j
  ·subst e;rw[dV];simp only[ag];exact z.kp k2 (fun _ _=>rfl) (fun k e=>by rw[e];exact fun h=>d i h.symm)
  ·rw[List.getElem_set_ne (fun h=>e h.symm)];simp only[ae e];exact ((v i y).kp hk o (fun k e2=>by rw[e2];omega)).kp k2 (fun _ _=>rfl) (fun k e=>by rw[e];exact fun h=>d i h.symm)
 ·exact Kp.setCell (T:=fun k=>tag k=t∨∃j,tag k=a+3*j) (hk.wider (fun k _ e=>Or.inr ⟨j,e⟩)) (.inl (.inl f)) u
theorem jR.at {w:World} {tag:Nat->Nat} {n g:Nat} {ls:List (List Ent)} (h:jR w tag n (.slice (some ⟨g,0,none⟩) n n) ls) {j:Nat} (f:j<n):∃u,w.cell? ⟨g,j,none⟩=some u∧InE w tag (14+3*j) u (ls.getD j []):=by
 obtain⟨g',us,b,_,c,d,e⟩:=h;obtain rfl:g=g':=by simpa using b
 have a:j<us.length:=by rw[c];exact f
 refine⟨us[j],?_,e j a⟩;rw[d.cellAt j oA,ac a]
theorem jR.fr {w:World} {tag:Nat->Nat} {n g:Nat} {ls:List (List Ent)} (h:jR w tag n (.slice (some ⟨g,0,none⟩) n n) ls) (j:Nat):w.frozen? ⟨g,j,none⟩=false:=by
 obtain⟨g',us,a,_,_,b,_⟩:=h;obtain rfl:g=g':=by simpa using a
 exact b.frozenAt j
theorem jR.Jk {w:World} {tag:Nat->Nat} {n g:Nat} {ls:List (List Ent)} (h:jR w tag n (.slice (some ⟨g,0,none⟩) n n) ls):tag g=10∧g<w.heap.size:=by
 obtain⟨g',us,a,b,_,c,_⟩:=h;obtain rfl:g=g':=by simpa using a
 exact⟨b,(c.lt g rfl).2⟩
theorem jR.form {w:World} {tag:Nat->Nat} {n:Nat} {v:Value} {ls:List (List Ent)} (h:jR w tag n v ls):∃g,v=.slice (some ⟨g,0,none⟩) n n:=by
 obtain⟨g,_,a,_⟩:=h;exact⟨g,a⟩
theorem jR.put {w w1:World} {tag tag':Nat->Nat} {n g:Nat} {ls:List (List Ent)} (h:jR w tag n (.slice (some ⟨g,0,none⟩) n n) ls) {j:Nat} (v:j<n) (x:ls.length=n)
  (hk:Kp (fun b=>tag b=14+3*j) w w1) (d:∀k,k<w.heap.size->tag' k=tag k) {u:Value} {l:List Ent} (s:InE w1 tag' (14+3*j) u l):
  jR (w1.setCell ⟨g,j,none⟩ u) tag' n (.slice (some ⟨g,0,none⟩) n n) (ls.set j l)∧Kp (fun k=>tag k=10∨∃j,tag k=14+3*j) w (w1.setCell ⟨g,j,none⟩ u):=by
 obtain⟨a,q⟩:=h.Jk;have c:=(d g q).trans a;obtain⟨g',us,f,t,m,o,p⟩:=h;obtain rfl:g=g':=by simpa using f
 have k2:Kp (fun b=>tag' b=10) w1 (w1.setCell ⟨g,j,none⟩ u):=Kp.setCell (T:=fun b=>tag' b=10) (aV _ w1) (.inl c) u;refine⟨⟨g,us.set j u,rfl,c,by rw[au];exact m,?_,fun i hi=>?_⟩,?_⟩
 ·exact ((iy o hk (fun k e=>by
   have:g=k:=by simpa [Value.ownBlock] using e
   rw[<-this,a];omega)).stored j u).1
 ·have r:i<us.length:=by rwa [au] at hi
  by_cases e:i=j
  ·subst e;rw[dV,aa,cQ oA];exact s.kp k2 (fun _ _=>rfl) (fun k e=>by rw[e];omega)
  ·rw[List.getElem_set_ne (fun h=>e h.symm),aa,cR (fun h=>e h.symm), <-aa];exact ((p i r).kp hk d (fun k e2=>by rw[e2];omega)).kp k2 (fun _ _=>rfl) (fun k e=>by rw[e];omega)
 ·exact Kp.setCell (T:=fun k=>tag k=10∨∃j,tag k=14+3*j) (hk.wider (fun k _ e=>Or.inr ⟨j,e⟩)) (.inl (.inl a)) u
theorem fx.J8 {w:World} {tag tag':Nat->Nat} {t a O I s n g:Nat} {cc:Nat->Nat×List Value} (h:fx w tag t a O I s n (.slice (some ⟨g,0,none⟩) n n) cc) (l:tag' g=t) (hi:∀k j,tag k=a+3*j->tag' k=a+3*j):fx w tag' t a O I s n (.slice (some ⟨g,0,none⟩) n n) cc:=by
 obtain⟨g',us,d,_,f,i,b⟩:=h;obtain rfl:g=g':=by simpa using d
 exact⟨g,us,rfl,l,f,i,fun j c=>⟨(b j c).1,fun k e=>hi k j ((b j c).2 k e)⟩⟩
def Ax (tag:Nat->Nat) (c t k:Nat):Nat:=if k=c then t else tag k
theorem Dt (tag:Nat->Nat) (c t:Nat):Ax tag c t c=t:=ag rfl
theorem yE {tag:Nat->Nat} {c t k:Nat} (h:k<c):Ax tag c t k=tag k:=ae oA
theorem qU (v:Value) (ls:List (List Int)) (tag:Nat->Nat) (a c:Nat) (t:Int) (w:World) (h:fx w tag a c 22 3 1 ls.length v (ci ls)) (K:∀j,a≠c+3*j) (hl:ls.length<=1000) (Z:∀l∈ls,l.length<=1000):
  Calls Tryz.prog 220 #[v,.int .i64 t] w fun r w'=>r=.returned (.tuple #[])∧fx w' tag a c 22 3 1 (lvs t ls).length v (ci (lvs t ls))∧Kp (fun k=>tag k=a∨∃j,tag k=c+3*j) w w':=by
 obtain⟨g,rfl⟩:=h.form;have ag:(ls.length:Int)<=1000:=oA;have U:=hid Z;have m:=hid K;have I:=hid h.Jk;have y:=hid (h.kp (w':=w.alloc (.cells #[.int .i64 t] 3)) (tag':=Ax tag w.heap.size a) (T:=fun _=>False) (.IM (bal (af _ w) _)) (fun k hk=>yE hk) (fun _ _ e=>e));have D:=hid (cq w #[.int .i64 t] 3 0);have q:=hid (show Kp (fun k=>Ax tag w.heap.size a k=a∨∃j,Ax tag w.heap.size a k=c+3*j) w (w.alloc (.cells #[.int .i64 t] 3)) from .IM (bal (af _ w) _));have C:=hid (Dt tag w.heap.size a);have G:=hid (fun k (hk:k<w.heap.size)=>show Ax tag w.heap.size a k=tag k from yE hk);have H:=hid (show ∀k j,Ax tag w.heap.size a k=c+3*j->tag k=c+3*j from fun k j e=>by
  unfold Ax at e;split at e
  ·exact absurd e (K j)
  ·exact e)
 generalize Ax tag w.heap.size a=tg at y C G H q;go_enter Tryz.func220,Tryz.ntmps220
 go_wp2_with fail
 generalize World.alloc _ _=W0 at y D q ⊢
 go_loopw [8] (fun i wr=>∃(k:Nat),k<=ls.length∧i=.int .i64 k∧Hid (fx wr tg a c 22 3 1 ls.length (.slice (some ⟨g,0,none⟩) ls.length ls.length) (ci (eY (dz fun x=>x==t) k ls)))∧Hid (Kp (fun k=>tg k=a∨∃j,tg k=c+3*j) w wr)∧Hid (wr.cell? ⟨w.heap.size,0,none⟩=some (.int .i64 t))) (fun i _=>ls.length - (intOf i).toNat)
 case atStart=>exact⟨0,oA,rfl,hid (by rw[fi];exact y),q,D⟩
 case round=>
  obtain⟨k,hk,rfl,f,E,z⟩:=hrel;by_cases d:k<ls.length
  ·have ah:(k:Int)<(ls.length:Int):=oA;obtain⟨u,cu,hi⟩:=f.at d;have S:=hid (show ci (eY (dz fun x=>x==t) k ls) k=(ls[k].length,dU ls[k]) by
    have L:k<(eY (dz fun x=>x==t) k ls).length:=by rw[cM];exact d
    unfold ci;rw[aa,ac L,aT,d9 _ _ _ d L])
   rw[S.out] at hi;have ab:u.ownBlock≠some w.heap.size:=fun e=>m.out k (C.symm.trans (hi.2 _ e));have Q:=hid (qz u ls[k] w.heap.size t wr hi.1 (U.out _ (av d)) z ab);have F:=hid hi;have gk:=f.fr k;have P:=hid cu;have s:=hid f.Jk;go_wp2_with fail
   refine Q.mono ?_;rintro r w1 ⟨u',rfl,J,ad,Y⟩;have n:=hid (Y.wider (fun b _ e=>F.2 b e));have V:=hid (show InT w1 tg (c+3*k) 3 1 u' ((dz (fun x=>x==t) ls[k]).length,dU (dz (fun x=>x==t) ls[k])) from⟨J,fun b e=>F.2 b (by rw[<-ad];exact e)⟩);obtain⟨O,M,rfl⟩:=eJ J;have N:¬tg g=c+3*k:=by rw[s.1];exact m k
   have c1:=(n.cell (p:=⟨g,k,none⟩) s.2 N).trans P;have f1:=(n.frozen (p:=⟨g,k,none⟩) s.2 N).trans gk;obtain⟨hn,X⟩:=f.put d m n (fun _ _=>rfl) V;have A:=hid (E.trans X);have B:=hid (show fx (w1.setCell ⟨g,k,none⟩ (.slice O (dz (fun x=>x==t) ls[k]).length M)) tg a c 22 3 1 ls.length (.slice (some ⟨g,0,none⟩) ls.length ls.length) (ci (eY (dz fun x=>x==t) (k+1) ls)) by
    rw[eA _ _ _ d,kz _ _ (by rw[cM];exact d)];exact hn)
   have R:=hid (show (w1.setCell ⟨g,k,none⟩ (.slice O (dz (fun x=>x==t) ls[k]).length M)).cell? ⟨w.heap.size,0,none⟩=some (.int .i64 t) by
    have o:=(n.cell (p:=⟨w.heap.size,0,none⟩) (aj _ _ z) (by show ¬tg w.heap.size=c+3*k;rw[C.out];exact m k)).trans z;rw[aO _ _ _ _ (by intro h;cases h;exact absurd I.2 oA)];exact o)
   go_wp2_with fail
   exact⟨⟨k+1,oA,by go_num,B,A,R⟩,by simp[intOf];omega⟩
  ·obtain rfl:k=ls.length:=oA;have ae:¬((ls.length:Int)<(ls.length:Int)):=oA;have B:=hid (show fx wr tag a c 22 3 1 (lvs t ls).length (.slice (some ⟨g,0,none⟩) ls.length ls.length) (ci (lvs t ls)) by
    have o:=f.J8 I.1 H;rw[fF] at o;unfold lvs;rw[bL];exact o)
   have A:=hid (E.wider (fun b W e=>show tag b=a∨∃j,tag b=c+3*j by rw[<-G.out b W];exact e));go_wp2_with fail
   exact aH (aF rfl _ _ _) rfl ⟨rfl,B.out,A.out⟩
def noT (t x:Int):Int:=if x=t then -1 else x
def PW.task (p:PW) (t k:Nat) (x:Int):PW:={p with II:=p.II.set t (upd (p.II.getD t bl) k x)}
def lvP (p:PW) (t:Nat):PW:={p.task t 14 (-1) with lines:=lvs t p.lines,ready:=lvs t p.ready,IJ:=p.IJ.map (noT t)}
theorem PW.Jz (p:PW) (t k:Nat) (x:Int):(p.task t k x).II.length=p.II.length:=by unfold PW.task;simp
theorem _root_.Go.Proofs.YtnccmdndkmmhcaaGreatDoor.ap:type_of% @PW.Jz:= @PW.Jz
theorem cb.task {W:World} {wb:Nat} {tag:Nat->Nat} {V:Nat->Value} {p:PW} (h:cb W wb tag V p) {g cap:Nat} (e:V 3=.slice (some ⟨g,0,none⟩) p.II.length cap) {i k:Nat} (hi:i<p.II.length) (hk:k<20) (x:Int):
  cb (W.setCell ⟨g,i*20+k,none⟩ (.int .i64 x)) wb tag V (p.task i k x)∧Kt tag tag W (W.setCell ⟨g,i*20+k,none⟩ (.int .i64 x)):=by
 have a:=h.IV e hi hk x;have b:p.II.getD i bl=p.II[i]:=by rw[aa,ac hi];rfl
 unfold PW.task;rw[b];exact a
theorem cb.IS {W:World} {wb:Nat} {tag:Nat->Nat} {V:Nat->Value} {p:PW} (h:cb W wb tag V p) {g cap:Nat} (e:V 3=.slice (some ⟨g,0,none⟩) p.II.length cap) {i k:Nat} (hi:i<p.II.length) (hk:k<20):W.cell? ⟨g,i*20+k,none⟩=some (.int .i64 (p.II.getD i bl k)):=by
 rw[h.I3 e hi hk,aa,ac hi];rfl
theorem mX (t:Int) (ls:List (List Int)):(lvs t ls).length=ls.length:=by unfold lvs;simp
theorem vk (wb:Nat) (tag:Nat->Nat) (V:Nat->Value) (p:PW) (t:Nat) (W:World) (bt:cb W wb tag V p) (A:p.Fits) (G:t<p.II.length):
  Calls Tryz.prog 165 #[.pointer (some ⟨wb,0,none⟩),.int .i64 t] W fun r W'=>r=.returned (.tuple #[])∧cb W' wb tag V (lvP p t)∧Kt tag tag W W':=by
 obtain⟨Z,U,h⟩:=bt.o.II.form oA;obtain⟨g4,e4⟩:=bt.o.lines.form;obtain⟨g7,e7⟩:=bt.o.ready.form;obtain⟨q6,E,cap6,e6,P⟩:=bt.o.IJ.shape;have S:=bD bt h;have af:(t:Int)<(p.II.length:Int):=oA;have ab:(p.II.length:Int)<=1000:=by have:=A.II;omega
 have ac:(p.IJ.length:Int)<=1000:=by have:=A.IJ;omega
 have ai:=bt.IS h G (show 14<20 by omega);have X:=bt.IT h (t*20+14);obtain⟨b1,k1⟩:=bt.task h G (show 14<20 by omega) (-1);have n:=hid b1;have J:=hid k1;have g:=hid A;have I:=hid P;have u:=hid e6;have s:=hid e4;have v:=hid e7;go_enter Tryz.func165,Tryz.ntmps165
 go_upto_region 1 with fail
 generalize World.setCell _ _ _=M at*;have T:=bD n s;have d:=hid (qU (V 4) p.lines tag 6 12 t M n.o.lines (fun j=>oA) g.lines g.line);rw[s.out] at d;go_wp2_with fail
 refine d.mono ?_;rintro r w2 ⟨rfl,a,f⟩;have q:=hid (n.lines f (fun _ _=>rfl) (by rw[s.out];exact a));have K:=hid (J.trans (.of f (fun k e=>by rcases e with e|⟨j,e⟩<;>omega) (fun _ _=>rfl)));have c7:=bD q v;have d:=hid (qU (V 7) p.ready tag 9 13 t w2 q.o.ready (fun j=>oA) g.ready g.next);rw[v.out] at d;go_wp2_with fail
 refine d.mono ?_;rintro r w3 ⟨rfl,a,f⟩;have C:=hid (q.ready f (fun _ _=>rfl) (by rw[v.out];exact a));have L:=hid (K.trans (.of f (fun k e=>by rcases e with e|⟨j,e⟩<;>omega) (fun _ _=>rfl)));have c6:=bD C u;go_wp2_with fail
 go_loopw [30] (fun i wr=>∃(k:Nat),k<=p.IJ.length∧i=.int .i64 k∧Hid (cb wr wb tag V {p.task t 14 (-1) with lines:=lvs t p.lines,ready:=lvs t p.ready,IJ:=eY (noT t) k p.IJ})∧Hid (Kt tag tag W wr)) (fun i _=>p.IJ.length - (intOf i).toNat)
 case atStart=>exact⟨0,oA,rfl,hid (by rw[fi];exact C),L⟩
 case round=>
  obtain⟨k,hk,rfl,c,w⟩:=hrel;by_cases l:k<p.IJ.length
  ·have ad:(k:Int)<(p.IJ.length:Int):=oA;have Q:=I.out oA;subst Q;have z:k<(eY (noT t) k p.IJ).length:=by rw[cM];exact l
   have F:V 6=.slice (some ⟨E,0,none⟩) (eY (noT t) k p.IJ).length cap6:=by rw[cM];exact u
   have c6:=bD c u;have a:=c.o.IJ;simp only at a;rw[F] at a;have B:=a.int z;have Y:=a.frozen k;rw[d9 _ _ _ l z] at B;have x:=hid (eA (noT (t:Int)) k p.IJ l);have D:=hid (d9 (noT (t:Int)) k p.IJ l z);obtain⟨y,R⟩:∃y,p.IJ[k]=y:=⟨_,rfl⟩
   rw[R] at B x D;by_cases m:y=(t:Int)
   ·obtain⟨O,N⟩:=c.I4 F k (-1);have b:=hid (show cb (wr.setCell ⟨E,k,none⟩ (.int .i64 (-1))) wb tag V {p.task t 14 (-1) with lines:=lvs t p.lines,ready:=lvs t p.ready,IJ:=eY (noT t) (k+1) p.IJ} by
     rw[x.out,show noT (t:Int) y= -1 from ag m];exact O)
    have H:=hid (w.trans N);rw[m] at B;go_wp2_with fail
    exact⟨⟨k+1,oA,by go_num,b,H⟩,by simp[intOf];omega⟩
   ·have b:=hid (show cb wr wb tag V {p.task t 14 (-1) with lines:=lvs t p.lines,ready:=lvs t p.ready,IJ:=eY (noT t) (k+1) p.IJ} by
     rw[x.out,show noT (t:Int) y=y from ae m, <-D.out,bV];exact c)
    have ah:(y==(t:Int))=false:=by simpa using m
    go_wp2_with fail
    exact⟨⟨k+1,oA,by go_num,b,w⟩,by simp[intOf];omega⟩
  ·obtain rfl:k=p.IJ.length:=oA;have aa:¬((p.IJ.length:Int)<(p.IJ.length:Int)):=oA;have b:=hid (show cb wr wb tag V (lvP p t) by unfold lvP;rw[<-fF];exact c);go_wp2_with fail
   exact aH (aF rfl _ _ _) rfl ⟨rfl,b.out,w.out⟩
def gR (tag:Nat->Nat) (c t k:Nat):Nat:=if k<c then tag k else t
theorem yC {tag:Nat->Nat} {c t k:Nat} (h:k<c):gR tag c t k=tag k:=ag h
theorem _root_.Go.Proofs.YtnccmdndkmmhcaaGreatDoor.dO:type_of% @yC:= @yC
theorem gM (p:PW) (t k j:Nat) (x:Int) (a:t<p.II.length):(p.task t k x).II.getD t bl j=if j=k then x else p.II.getD t bl j:=by
 unfold PW.task;simp only;rw[aa,cQ a];rfl
