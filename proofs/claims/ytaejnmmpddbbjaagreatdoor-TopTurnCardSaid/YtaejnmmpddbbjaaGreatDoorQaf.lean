/- Qaf -/
import Derived.BigQuiet
import Derived.Test.YtaejnmmpddbbjaaGreatDoorQad
set_option maxRecDepth 100000
set_option maxHeartbeats 16000000
namespace Go.Proofs.YtaejnmmpddbbjaaGreatDoor
namespace Wd
open Go.RowKit Mem Bw Nums Mmu
def atV (p:PW) (t:Int):Int:=match p.IA[t.toNat]? with|some f=>f 14|none=> -1
def wtB (p:PW) (t:Int):Bool:=match p.IA[t.toNat]? with|some f=>f 9==4|none=>false
theorem AH {p:PW} {j:Nat} (h:j<p.IA.length):atV p j=p.IA[j] 14:=by
 unfold atV;rw[af,ac h]
theorem Bt {p:PW} {j:Nat} (h:j<p.IA.length):wtB p j=(p.IA[j] 9==4):=by
 unfold wtB;rw[af,ac h]
def tB (p:PW) (n z0 t:Int):Bool:= !(isB p t 6&&atV p t==n&&wtB p t==wtB p z0)
def hdB (k x:Int) (n:Nat):Bool:=(decide (0<n)&&k !=8&&k !=7)||(x !=0&&(k !=8||decide (0<n)|| !wB x))
def blB (p:PW) (n k x:Int) (zs:List Int):Bool:=hdB k x zs.length||zs.any (tB p n (zs.getD 0 0))
theorem Dl {p:PW} {n a t:Int} (h:tB p n a t=false):isB p t 6=true:=by
 unfold tB at h;simp only[cQ,am] at h;exact h.1.1
theorem pU (vb:Nat) (V:Nat->Value) (p:PW) (n:Nat) (x:Value) (zs:List Int) (w:World) (c:ei w vb V p) (hk:n<p.kinds.length) (s:n<p.bits.length) (z:ed w x zs) (hl:zs.length<=1000) (hh:hdB p.kinds[n] p.bits[n] zs.length=true):
  Calls Tryz.prog 109 #[.pointer (some ⟨vb,0,none⟩),.int .i64 n,x] w fun r w'=>r=.returned (.bool true)∧w=w':=by
 have c1:=r11 1 c.r;have D:=r11 5 c.r;obtain⟨q,b,off,cap,rfl, -, -⟩:=z;obtain⟨q1,b1,M,E,e1,t,A⟩:=c.v.kinds;obtain⟨O,b5,N,F,e5,u,C⟩:=c.v.bits;have J:(p.kinds.length:Int)<=1000:=by have:=c.f.kinds;omega
 have L:(p.bits.length:Int)<=1000:=by have:=c.f.bits;omega
 have K:(zs.length:Int)<=1000:=oA;have I:(n:Int)<(p.kinds.length:Int):=oA;have H:(n:Int)<(p.bits.length:Int):=oA;obtain rfl:=t oA;obtain rfl:=u oA;have d1:=A n hk;have m:=C n s;have a:=hid hh;generalize p.kinds[n]=k at d1 a;generalize p.bits[n]=y at m a;by_cases j:0<zs.length
 ·have B:(0:Int)<(zs.length:Int):=oA;by_cases d:k=8
  ·subst d;have g:¬y=0:=fun e=>by
    have:=a.out;subst e;simp[hdB] at this
   have i:(y !=0)=true:=by simpa using g
   go_enter Tryz.func109,Tryz.ntmps109
   go_wp2_with fail
   go_ret
   exact⟨rfl,rfl⟩
  ·have o:(k==8)=false:=by simpa using d
   by_cases h:k=7
   ·subst h;have g:¬y=0:=fun e=>by
     have:=a.out;subst e;simp[hdB] at this
    have i:(y !=0)=true:=by simpa using g
    go_enter Tryz.func109,Tryz.ntmps109
    go_wp2_with fail
    go_ret
    exact⟨rfl,rfl⟩
   ·have G:(k !=7)=true:=by simpa using h
    go_enter Tryz.func109,Tryz.ntmps109
    go_wp2_with fail
    go_ret
    exact⟨rfl,rfl⟩
 ·have B:¬(0:Int)<(zs.length:Int):=oA;have g:¬y=0:=fun e=>by
   have:=a.out;subst e;simp[hdB,j] at this
  have i:(y !=0)=true:=by simpa using g
  by_cases d:k=8
  ·subst d;have l:=hid (show wB y=false by
    have:=a.out;simp[hdB,j] at this;exact this.2)
   go_enter Tryz.func109,Tryz.ntmps109
   go_wp2_with fail
   refine (gM y w).mono ?_;rintro e w1 ⟨rfl,rfl⟩;rw[l.out];go_wp2_with fail
   go_ret
   exact⟨rfl,rfl⟩
  ·have o:(k==8)=false:=by simpa using d
   go_enter Tryz.func109,Tryz.ntmps109
   go_wp2_with fail
   go_ret
   exact⟨rfl,rfl⟩
theorem GO {zs:List Int} (h:0<zs.length):zs[0]=zs.getD 0 0:=by simp[List.getD,h]
theorem pV (vb:Nat) (V:Nat->Value) (p:PW) (n:Nat) (x:Value) (zs:List Int) (w:World) (B:ei w vb V p) (ht:p.IA.length=p.kinds.length) (hk:n<p.kinds.length) (al:n<p.bits.length) (hx:ed w x zs) (hl:zs.length<=1000) (hh:hdB p.kinds[n] p.bits[n] zs.length=false):
  Calls Tryz.prog 109 #[.pointer (some ⟨vb,0,none⟩),.int .i64 n,x] w fun r w'=>r=.returned (.bool (zs.any (tB p n (zs.getD 0 0))))∧Below w.heap.size w w':=by
 have c1:=r11 1 B.r;have c5:=r11 5 B.r;have Y:=hid (show ∀W,Below w.heap.size w W->W.cell? ⟨vb,3,none⟩=some (V 3) from fun W P=>ai (B.below P).r rfl);obtain⟨q,b,off,cap,rfl,hq,aC⟩:=hx;obtain⟨q1,b1,aP,aD,e1,ar,ay⟩:=B.v.kinds;obtain⟨q5,b5,aR,aG,e5,av,aB⟩:=B.v.bits;obtain⟨q3,b3,aQ,aF,e3,au,aA⟩:=B.v.IA;rw[e3] at Y;have aK:(p.kinds.length:Int)<=1000:=by have:=B.f.kinds;omega
 have aN:(p.bits.length:Int)<=1000:=by have:=B.f.bits;omega
 have aM:(p.IA.length:Int)<=1000:=by have:=B.f.IA;omega
 have aL:(zs.length:Int)<=1000:=oA;have aJ:(n:Int)<(p.kinds.length:Int):=oA;have aI:(n:Int)<(p.bits.length:Int):=oA;obtain rfl:=ar oA;obtain rfl:=av oA;have d1:=ay n hk;have d5:=aB n al;have I:=hid hh;have U:=hid B;have T:=hid ht;have HQ:=hid hq;have X:=hid aC;have af:=hid au;have ah:=hid aA;generalize p.kinds[n]=k at d1 I;generalize p.bits[n]=y at d5 I;have K:=hid (fun (h:0<zs.length)=>GO h);generalize zs.getD 0 0=t at K ⊢;by_cases o:0<zs.length
 ·have az:(0:Int)<(zs.length:Int):=oA;have aw:=HQ.out o;subst aw;have g:y=0:=by
   have:=I.out;simp[hdB,o] at this;exact this.2
  subst g;by_cases O:k=8
  ·subst O;go_enter Tryz.func109,Tryz.ntmps109
   go_wp2_with fail
   go_loopw [69] (fun i wr=>∃a:Nat,a<=zs.length∧i=.int .i64 a∧Hid (∀j (d:j<zs.length),j<a->tB p n (t) zs[j]=false)∧Hid (Below w.heap.size w wr)) (fun i _=>zs.length - (intOf i).toNat)
   case atStart=>exact⟨0,oA,rfl,hid fun j _ h=>oA,hid (ag _ _)⟩
   case round=>
    obtain⟨a,ap,rfl,F,c⟩:=hrel;by_cases Q:a<zs.length
    ·have aq:(a:Int)<(zs.length:Int):=oA;have c0:=(X.below c) a Q;have S:=(X.below c) 0 o;rw[bO] at S;have D:=hid (show tB p n (t) zs[a]=true->zs.any (tB p n (t))=true from fun h=>rI a Q h);have N:=hid (show tB p n (t) zs[a]=false->∀j (d:j<zs.length),j<a+1->tB p n (t) zs[j]=false from fun hf j d ao=>by
      by_cases e:j=a
      ·subst e;exact hf
      ·exact F j d oA)
     have J:=hid (show isB p zs[a] 6=true->isB p (t) 6=true from fun h=>by
      rw[<-K.out o];by_cases e:a=0
      ·subst e;exact h
      ·exact Dl (F.out 0 o oA))
     rw[K.out o] at S;have d3:=Y.out wr c;generalize zs[a]=z at c0 D N J;go_wp2_with fail
     refine (jd vb V p z 6 wr (U.below c)).mono ?_;rintro r w1 ⟨rfl,rfl⟩
     cases hi:isB p z 6 with
     |false=>
      have l:=hid (D.out (by unfold tB;rw[hi];rfl));go_wp2_with fail
      go_ret
      exact⟨by rw[l.out];rfl,c.out⟩
     |true=>
      obtain⟨j,rfl,ab⟩:=jU hi;obtain⟨s,rfl,ac⟩:=jU (J.out hi);have d:j<p.IA.length:=by rw[T.out];exact ab
      have ad:s<p.IA.length:=by rw[T.out];exact ac
      have an:(j:Int)<(p.IA.length:Int):=oA;have ae:=af.out oA;subst ae;have aa:=cS (dN (ah.out j d) c) (dm 20 _ 14 oA);have G:=hid (show tB p n (s:Int) (j:Int)= !(p.IA[j] 14==(n:Int)&&wtB p j==wtB p s) by
       unfold tB;rw[hi,AH d];rfl)
      have Z:=hid (show ∀(m:Nat) (W:World),m<p.IA.length->Below w.heap.size w W->Calls Tryz.prog 161 #[.pointer (some ⟨vb,0,none⟩),.int .i64 m] W (fun r w'=>r=.returned (.bool (wtB p m))∧w'=W) from fun m W R P=>(rC vb V p m W (U.below P) R).mono fun r w' h=>⟨by rw[h.1,Bt R],h.2.symm⟩);generalize p.IA[j] 14=y at aa G;by_cases g:y=(n:Int)
      ·subst g;have C:=hid (show tB p n (s:Int) (j:Int)= !(wtB p j==wtB p s) by rw[G.out];simp);have L:=hid (fun m=>aE c m);go_wp2_with fail
       go_quiet (first|(go_at_call 161;refine bD (Z.out _ _ ?_ (L.out _));first|exact d|exact ad))
       have u:=hid (L.out nq);generalize World.drewN _ _=W4 at u ⊢;generalize wtB p j=E at C ⊢;generalize wtB p s=A at C ⊢;have l:=hid (show E=A->_ from fun e=>N.out (by rw[C.out,e];cases A<;>rfl));have M:=hid (show E≠A->_ from fun e=>D.out (by rw[C.out];revert e;cases E<;>cases A<;>simp))
       cases E<;>cases A
       ·go_wp2_with fail
        exact⟨⟨a+1,oA,by go_num,hid (l.out rfl),u⟩,by simp[intOf];omega⟩
       ·go_wp2_with fail
        go_ret
        exact⟨by rw[M.out oD];rfl,u.out⟩
       ·go_wp2_with fail
        go_ret
        exact⟨by rw[M.out oD];rfl,u.out⟩
       ·go_wp2_with fail
        exact⟨⟨a+1,oA,by go_num,hid (l.out rfl),u⟩,by simp[intOf];omega⟩
      ·have l:=hid (D.out (by rw[G.out];simp[g]));have ax:(y !=(n:Int))=true:=by simpa using g
       go_wp2_with fail
       go_ret
       exact⟨by rw[l.out];rfl,c.out⟩
    ·obtain rfl:a=zs.length:=oA;have am:¬((zs.length:Int)<(zs.length:Int)):=oA;have H:=hid (vA fun k h=>F.out k h h);go_wp2_with fail
     go_ret
     exact⟨by rw[H.out];rfl,c.out⟩
  ·have aH:(k==8)=false:=by simpa using O
   have h7:k=7:=by
    have:=I.out;simp[hdB,o,O] at this;exact this
   subst h7;go_enter Tryz.func109,Tryz.ntmps109
   go_wp2_with fail
   go_loopw [69] (fun i wr=>∃a:Nat,a<=zs.length∧i=.int .i64 a∧Hid (∀j (d:j<zs.length),j<a->tB p n (t) zs[j]=false)∧Hid (Below w.heap.size w wr)) (fun i _=>zs.length - (intOf i).toNat)
   case atStart=>exact⟨0,oA,rfl,hid fun j _ h=>oA,hid (ag _ _)⟩
   case round=>
    obtain⟨a,ap,rfl,F,c⟩:=hrel;by_cases Q:a<zs.length
    ·have aq:(a:Int)<(zs.length:Int):=oA;have c0:=(X.below c) a Q;have S:=(X.below c) 0 o;rw[bO] at S;have D:=hid (show tB p n (t) zs[a]=true->zs.any (tB p n (t))=true from fun h=>rI a Q h);have N:=hid (show tB p n (t) zs[a]=false->∀j (d:j<zs.length),j<a+1->tB p n (t) zs[j]=false from fun hf j d ao=>by
      by_cases e:j=a
      ·subst e;exact hf
      ·exact F j d oA)
     have J:=hid (show isB p zs[a] 6=true->isB p (t) 6=true from fun h=>by
      rw[<-K.out o];by_cases e:a=0
      ·subst e;exact h
      ·exact Dl (F.out 0 o oA))
     rw[K.out o] at S;have d3:=Y.out wr c;generalize zs[a]=z at c0 D N J;go_wp2_with fail
     refine (jd vb V p z 6 wr (U.below c)).mono ?_;rintro r w1 ⟨rfl,rfl⟩
     cases hi:isB p z 6 with
     |false=>
      have l:=hid (D.out (by unfold tB;rw[hi];rfl));go_wp2_with fail
      go_ret
      exact⟨by rw[l.out];rfl,c.out⟩
     |true=>
      obtain⟨j,rfl,ab⟩:=jU hi;obtain⟨s,rfl,ac⟩:=jU (J.out hi);have d:j<p.IA.length:=by rw[T.out];exact ab
      have ad:s<p.IA.length:=by rw[T.out];exact ac
      have an:(j:Int)<(p.IA.length:Int):=oA;have ae:=af.out oA;subst ae;have aa:=cS (dN (ah.out j d) c) (dm 20 _ 14 oA);have G:=hid (show tB p n (s:Int) (j:Int)= !(p.IA[j] 14==(n:Int)&&wtB p j==wtB p s) by
       unfold tB;rw[hi,AH d];rfl)
      have Z:=hid (show ∀(m:Nat) (W:World),m<p.IA.length->Below w.heap.size w W->Calls Tryz.prog 161 #[.pointer (some ⟨vb,0,none⟩),.int .i64 m] W (fun r w'=>r=.returned (.bool (wtB p m))∧w'=W) from fun m W R P=>(rC vb V p m W (U.below P) R).mono fun r w' h=>⟨by rw[h.1,Bt R],h.2.symm⟩);generalize p.IA[j] 14=y at aa G;by_cases g:y=(n:Int)
      ·subst g;have C:=hid (show tB p n (s:Int) (j:Int)= !(wtB p j==wtB p s) by rw[G.out];simp);have L:=hid (fun m=>aE c m);go_wp2_with fail
       go_quiet (first|(go_at_call 161;refine bD (Z.out _ _ ?_ (L.out _));first|exact d|exact ad))
       have u:=hid (L.out nq);generalize World.drewN _ _=W4 at u ⊢;generalize wtB p j=E at C ⊢;generalize wtB p s=A at C ⊢;have l:=hid (show E=A->_ from fun e=>N.out (by rw[C.out,e];cases A<;>rfl));have M:=hid (show E≠A->_ from fun e=>D.out (by rw[C.out];revert e;cases E<;>cases A<;>simp))
       cases E<;>cases A
       ·go_wp2_with fail
        exact⟨⟨a+1,oA,by go_num,hid (l.out rfl),u⟩,by simp[intOf];omega⟩
       ·go_wp2_with fail
        go_ret
        exact⟨by rw[M.out oD];rfl,u.out⟩
       ·go_wp2_with fail
        go_ret
        exact⟨by rw[M.out oD];rfl,u.out⟩
       ·go_wp2_with fail
        exact⟨⟨a+1,oA,by go_num,hid (l.out rfl),u⟩,by simp[intOf];omega⟩
      ·have l:=hid (D.out (by rw[G.out];simp[g]));have ax:(y !=(n:Int))=true:=by simpa using g
       go_wp2_with fail
       go_ret
       exact⟨by rw[l.out];rfl,c.out⟩
    ·obtain rfl:a=zs.length:=oA;have am:¬((zs.length:Int)<(zs.length:Int)):=oA;have H:=hid (vA fun k h=>F.out k h h);go_wp2_with fail
     go_ret
     exact⟨by rw[H.out];rfl,c.out⟩
 ·have az:¬(0:Int)<(zs.length:Int):=oA;have aj:zs=[]:=List.length_eq_zero_iff.1 oA;have H:=hid (show zs.any (tB p n t)=false by rw[aj];rfl);clear aj;by_cases g:y=0
  ·subst g;go_enter Tryz.func109,Tryz.ntmps109
   go_wp2_with fail
   go_loopw [69] (fun i wr=>i=.int .i64 0∧Hid (w=wr)) (fun _ _=>0)
   case atStart=>exact⟨rfl,hid rfl⟩
   case round=>
    obtain⟨rfl,c⟩:=hrel;obtain rfl:=c.out;go_wp2_with fail
    go_ret
    exact⟨by rw[H.out];rfl,ag _ _⟩
  ·have aO:(y !=0)=true:=by simpa using g
   have O:k=8:=by
    have:=I.out;simp[hdB,o,g] at this;exact this.1
   have c:=hid (show wB y=true by
    have:=I.out;simp[hdB,o,g] at this;exact this.2)
   subst O;go_enter Tryz.func109,Tryz.ntmps109
   go_wp2_with fail
   refine (gM y w).mono ?_;rintro e w1 ⟨rfl,rfl⟩;rw[c.out];go_wp2_with fail
   go_loopw [69] (fun i wr=>i=.int .i64 0∧Hid (w=wr)) (fun _ _=>0)
   case atStart=>exact⟨rfl,hid rfl⟩
   case round=>
    obtain⟨rfl,c⟩:=hrel;obtain rfl:=c.out;go_wp2_with fail
    go_ret
    exact⟨by rw[H.out];rfl,ag _ _⟩
theorem rK (vb:Nat) (V:Nat->Value) (p:PW) (n:Nat) (x:Value) (zs:List Int) (w:World) (b:ei w vb V p) (e:p.IA.length=p.kinds.length) (hk:n<p.kinds.length) (a:n<p.bits.length) (c:ed w x zs) (hl:zs.length<=1000):
  Calls Tryz.prog 109 #[.pointer (some ⟨vb,0,none⟩),.int .i64 n,x] w fun r w'=>r=.returned (.bool (blB p n p.kinds[n] p.bits[n] zs))∧Below w.heap.size w w':=by
 unfold blB
 cases hh:hdB p.kinds[n] p.bits[n] zs.length with
 |true=>
  refine (pU vb V p n x zs w b hk a c hl hh).mono ?_;rintro r w' ⟨rfl,rfl⟩;exact⟨rfl,ag _ _⟩
 |false=>
  refine (pV vb V p n x zs w b e hk a c hl hh).mono ?_;rintro r w' ⟨rfl,d⟩;exact⟨rfl,d⟩
theorem DL (w:World) (f:Nat->Int) (t:TypeId):(w.alloc (.cells (cf 20 f).toArray t)).rangeAt w.heap.size 0 (cf 20 f):=fun k v hk=>by
 rw[aC,bM w (cf 20 f).toArray t k];simpa using hk
theorem AJ {W:World} {b:Nat} {f:Nat->Int} (h:W.rangeAt b 0 (cf 20 f)) (k:Nat) (hk:k<20):W.cell? ⟨b,k,none⟩=some (.int .i64 (f k)):=by
 have:=cS h (dm 20 f k hk)
 rwa [aC] at this
theorem _root_.Go.Proofs.YtaejnmmpddbbjaaGreatDoor.eH:type_of% @AJ:= @AJ
theorem It (f:Nat->Int) (W:World) (k:Nat) (hk:k<8):(Instr.index 43 (.agg #[.int .i64 (f 0),.int .i64 (f 1),.int .i64 (f 2),.int .i64 (f 3),.int .i64 (f 4),.int .i64 (f 5),.int .i64 (f 6),.int .i64 (f 7)]) (.int .i64 k)).run Tryz.prog W=.ok (.int .i64 (f k)) W:=by
 have b:=Tryz.underlying43;have a:k=0∨k=1∨k=2∨k=3∨k=4∨k=5∨k=6∨k=7:=oA;rcases a with rfl|rfl|rfl|rfl|rfl|rfl|rfl|rfl
 all_goals
  unfold Instr.index;simp[run_underlying b,asIntOf,go_sem,Sem.run_bind]
def dH (a b z:Int):Bool:=decide (a<=z∧z<=b)
theorem kh (z a b:Int) (w:World):Calls Tryz.prog 62 #[.int .i64 z,.int .i64 a,.int .i64 b] w fun e w'=>e=.returned (.bool (dH a b z))∧w=w':=eD z a b w
def Gf (f:Nat->Int):Bool:=(List.range 8).all fun k=>wB (f k)
def nfB (p:PW) (f:Nat->Int):Bool:=Gf f&&wB (f 8)&&wB (f 15)&&wB (f 16)&&dH 0 6 (f 9)&&dH 0 3 (f 10)&&dH 0 ((p.IC.length:Int) - 1) (f 18)&&dH 0 3 (f 19)
theorem FK {f:Nat->Int} (k:Nat) (hk:k<8) (h:wB (f k)=false):Gf f=false:=by
 unfold Gf;rw[List.all_eq_false];exact⟨k,List.mem_range.2 hk,by simp[h]⟩
theorem xX {f:Nat->Int} (h:∀k,k<8->wB (f k)=true):Gf f=true:=bf.2 fun k hk=>h k (List.mem_range.1 hk)
theorem nI (vb:Nat) (V:Nat->Value) (p:PW) (f:Nat->Int) (w:World) (n:ei w vb V p):
  Calls Tryz.prog 155 #[.pointer (some ⟨vb,0,none⟩),.agg (cf 20 f).toArray] w fun r w'=>r=.returned (.bool (nfB p f))∧Below w.heap.size w w':=by
 have d:=hid (bal (ag w.heap.size w) (.cells (cf 20 f).toArray 45));have a:=hid (DL w f 45);have K:=r11 6 (n.below d).r;obtain⟨q,b,off,cap,e6, -, -⟩:=n.v.IC;have hl:(p.IC.length:Int)<=1000:=by have:=n.f.IC;omega
 have O:=eH a 0 oA;have P:=eH a 1 oA;have x2:=eH a 2 oA;have x3:=eH a 3 oA;have x4:=eH a 4 oA;have x5:=eH a 5 oA;have x6:=eH a 6 oA;have x7:=eH a 7 oA;have x8:=eH a 8 oA;have x9:=eH a 9 oA;have Q:=eH a 10 oA;have R:=eH a 11 oA;have S:=eH a 12 oA;have T:=eH a 13 oA;have U:=eH a 14 oA;have X:=eH a 15 oA;have Y:=eH a 16 oA;have Z:=eH a 17 oA;have aa:=eH a 18 oA;have ab:=eH a 19 oA;go_enter Tryz.func155,Tryz.ntmps155
 go_wp2_with fail
 generalize World.alloc _ _=y at*
 go_loopw [9] (fun i wr=>∃k:Nat,k<=8∧i=.int .i64 k∧Hid (∀j,j<k->wB (f j)=true)∧Hid (y=wr)) (fun i _=>8 - (intOf i).toNat)
 case atStart=>exact⟨0,oA,rfl,hid fun j h=>oA,hid rfl⟩
 case round=>
  obtain⟨k,hk,rfl,s,G⟩:=hrel;obtain rfl:=G.out;by_cases z:k<8
  ·have t:=hid (show wB (f k)=true->∀j,j<k+1->wB (f j)=true from fun h j M=>by
    by_cases e:j=k
    ·subst e;exact h
    ·exact s j oA)
   have x:=hid (show wB (f k)=false->nfB p f=false from fun h=>by unfold nfB;rw[FK k z h];rfl);have L:=It f y k z;have N:(k:Int)<8:=oA;go_wp2_with fail
   refine (gM _ _).mono ?_;rintro r w1 ⟨rfl,rfl⟩;generalize wB (f k)=I at t x ⊢
   cases I with
   |false=>
    have c:=hid (x.out rfl);go_wp2_with fail
    go_ret
    exact⟨by rw[c.out];rfl,d.out⟩
   |true=>
    have c:=hid (t.out rfl);go_wp2_with fail
    exact⟨⟨k+1,oA,by go_num,c,hid oS⟩,by simp[intOf];omega⟩
  ·obtain rfl:k=8:=oA;have F:=hid (xX s);go_wp2_with fail
   refine (gM (f 8) _).mono ?_;rintro r w1 ⟨rfl,rfl⟩
   cases h8:wB (f 8) with
   |false=>
    have c:=hid (show nfB p f=false by unfold nfB;rw[h8];simp);go_wp2_with fail
    go_ret
    exact⟨by rw[c.out];rfl,d.out⟩
   |true=>
    have D:=hid h8;go_wp2_with fail
    refine (gM (f 15) _).mono ?_;rintro r w1 ⟨rfl,rfl⟩
    cases h15:wB (f 15) with
    |false=>
     have c:=hid (show nfB p f=false by unfold nfB;rw[h15];simp);go_wp2_with fail
     go_ret
     exact⟨by rw[c.out];rfl,d.out⟩
    |true=>
     have B:=hid h15;go_wp2_with fail
     refine (gM (f 16) _).mono ?_;rintro r w1 ⟨rfl,rfl⟩
     cases h16:wB (f 16) with
     |false=>
      have c:=hid (show nfB p f=false by unfold nfB;rw[h16];simp);go_wp2_with fail
      go_ret
      exact⟨by rw[c.out];rfl,d.out⟩
     |true=>
      have C:=hid h16;go_wp2_with fail
      refine (kh (f 9) 0 6 _).mono ?_;rintro r w1 ⟨rfl,rfl⟩
      cases h9:dH 0 6 (f 9) with
      |false=>
       have c:=hid (show nfB p f=false by unfold nfB;rw[h9];simp);go_wp2_with fail
       go_ret
       exact⟨by rw[c.out];rfl,d.out⟩
      |true=>
       have E:=hid h9;go_wp2_with fail
       refine (kh (f 10) 0 3 _).mono ?_;rintro r w1 ⟨rfl,rfl⟩
       cases h10:dH 0 3 (f 10) with
       |false=>
        have c:=hid (show nfB p f=false by unfold nfB;rw[h10];simp);go_wp2_with fail
        go_ret
        exact⟨by rw[c.out];rfl,d.out⟩
       |true=>
        have A:=hid h10;have o:=hid (fun m=>aE d m);go_wp2_with fail
        cases h18:dH 0 ((p.IC.length:Int) - 1) (f 18) with
        |false=>
         have c:=hid (show nfB p f=false by unfold nfB;rw[h18];simp);have l:=hid (show ∀W,Calls Tryz.prog 62 #[.int .i64 (f 18),.int .i64 0,.int .i64 ((p.IC.length:Int) - 1)] W fun e w'=>e=.returned (.bool false)∧w'=W from fun W=>(kh (f 18) 0 ((p.IC.length:Int) - 1) W).mono fun r w' h=>⟨by rw[h.1,h18],h.2.symm⟩)
         go_quiet (first|(go_at_call 62;refine bD (l.out _)))
         have g:=hid (o.out nq);generalize World.drewN _ _=H at g ⊢;go_wp2_with fail
         go_ret
         exact⟨by rw[c.out];rfl,g.out⟩
        |true=>
         have c:=hid (show nfB p f=dH 0 3 (f 19) by unfold nfB;rw[F.out,D.out,B.out,C.out,E.out,A.out,h18];simp);have l:=hid (show ∀W,Calls Tryz.prog 62 #[.int .i64 (f 18),.int .i64 0,.int .i64 ((p.IC.length:Int) - 1)] W fun e w'=>e=.returned (.bool true)∧w'=W from fun W=>(kh (f 18) 0 ((p.IC.length:Int) - 1) W).mono fun r w' h=>⟨by rw[h.1,h18],h.2.symm⟩);have u:=hid (show ∀W,Calls Tryz.prog 62 #[.int .i64 (f 19),.int .i64 0,.int .i64 3] W fun e w'=>e=.returned (.bool (dH 0 3 (f 19)))∧w'=W from fun W=>(kh (f 19) 0 3 W).mono fun r w' h=>⟨h.1,h.2.symm⟩);generalize dH 0 3 (f 19)=J at c u;generalize f 18=ac at*;generalize f 19=ad at*
         go_quiet (first|(go_at_call 62;(with_reducible refine bD (l.out _)))|(go_at_call 62;refine bD (u.out _)))
         have g:=hid (o.out nq);generalize World.drewN _ _=H at g ⊢;go_wp2_with fail
         go_ret
         exact⟨by rw[c.out];rfl,g.out⟩
def ffB (p:PW) (f:Nat->Int):Bool:=fG p (f 11) 5&&fG p (f 12) 4&&fG p (f 13) 7&&fG p (f 17) 6
theorem oZ (vb:Nat) (V:Nat->Value) (p:PW) (f:Nat->Int) (w:World) (j:ei w vb V p):
  Calls Tryz.prog 156 #[.pointer (some ⟨vb,0,none⟩),.agg (cf 20 f).toArray] w fun r w'=>r=.returned (.bool (ffB p f))∧Below w.heap.size w w':=by
 have b:=hid (bal (ag w.heap.size w) (.cells (cf 20 f).toArray 45));have d:=hid (DL w f 45);have c:=hid (j.below b);have l:=eH d 11 oA;have m:=eH d 12 oA;have n:=eH d 13 oA;have o:=eH d 17 oA;go_enter Tryz.func156,Tryz.ntmps156
 go_wp2_with fail
 generalize World.alloc _ _=k at*;refine (mb vb V p (f 11) 5 _ c).mono ?_;rintro r w1 ⟨rfl,rfl⟩
 cases h11:fG p (f 11) 5 with
 |false=>
  have a:=hid (show ffB p f=false by unfold ffB;rw[h11];simp);go_wp2_with fail
  go_ret
  exact⟨by rw[a.out];rfl,b.out⟩
 |true=>
  have e:=hid h11;go_wp2_with fail
  refine (mb vb V p (f 12) 4 _ c).mono ?_;rintro r w1 ⟨rfl,rfl⟩
  cases h12:fG p (f 12) 4 with
  |false=>
   have a:=hid (show ffB p f=false by unfold ffB;rw[h12];simp);go_wp2_with fail
   go_ret
   exact⟨by rw[a.out];rfl,b.out⟩
  |true=>
   have g:=hid h12;go_wp2_with fail
   refine (mb vb V p (f 13) 7 _ c).mono ?_;rintro r w1 ⟨rfl,rfl⟩
   cases h13:fG p (f 13) 7 with
   |false=>
    have a:=hid (show ffB p f=false by unfold ffB;rw[h13];simp);go_wp2_with fail
    go_ret
    exact⟨by rw[a.out];rfl,b.out⟩
   |true=>
    have h:=hid h13;go_wp2_with fail
    refine (mb vb V p (f 17) 6 _ c).mono ?_;rintro r w1 ⟨rfl,rfl⟩
    cases h17:fG p (f 17) 6 with
    |false=>
     have a:=hid (show ffB p f=false by unfold ffB;rw[h17];simp);go_wp2_with fail
     go_ret
     exact⟨by rw[a.out];rfl,b.out⟩
    |true=>
     have i:=hid h17;go_wp2_with fail
     go_ret
     exact⟨by unfold ffB;rw[e.out,g.out,h.out,i.out];rfl,b.out⟩
def ow (n:Int) (z:Nat->Int):Nat:=if z 17=n then 1 else 0
theorem Ha (n:Int) (z:Nat->Int):ow n z<=1:=by unfold ow;split<;>omega
def stV (p:PW) (t:Int):Int:=match p.IA[t.toNat]? with|some f=>f 9|none=> -1
theorem yj {p:PW} {j:Nat} (h:j<p.IA.length):stV p j=p.IA[j] 9:=by
 unfold stV;rw[af,ac h]
def owB (p:PW) (f:Nat->Int):Bool:=f 17== -1||(stV p (f 17)==5&&f 9 !=4)
def dbB (p:PW) (n:Int) (f:Nat->Int):Bool:=owB p f&&(if f 9=5 then ((ec (ow n) p.IA:Nat):Int)==1 else ((ec (ow n) p.IA:Nat):Int)==0)
theorem p9 (vb:Nat) (V:Nat->Value) (p:PW) (n:Int) (f:Nat->Int) (w:World) (s:ei w vb V p) (ho:f 17= -1∨∃j:Nat,j<p.IA.length∧f 17=j):
  Calls Tryz.prog 157 #[.pointer (some ⟨vb,0,none⟩),.int .i64 n,.agg (cf 20 f).toArray] w fun r w'=>r=.returned (.bool (dbB p n f))∧Below w.heap.size w w':=by
 have d:=hid (bal (ag w.heap.size w) (.cells (cf 20 f).toArray 45));have E:=hid (DL w f 45);have J:=eH E 17 oA;have K:=eH E 9 oA;have T:=r11 3 (s.below d).r;obtain⟨q,b3,aa,af,e3,hq,hz⟩:=s.v.IA;have hl:(p.IA.length:Int)<=1000:=by have:=s.f.IA;omega
 have N:=hid hq;have P:=hid hz;have HV:=hid s;have S0:=hid (show (w.alloc (.cells (cf 20 f).toArray 45)).heap.size=w.heap.size+1 by simp);by_cases G:f 17= -1
 case' neg=>
  obtain⟨j,Y,W⟩:=ho.resolve_left G;have al:(j:Int)<(p.IA.length:Int):=oA;have H:=N.out oA;subst H;have cj:=cS (dN (P.out j Y) d) (dm 20 _ 9 oA);have g:=hid (show owB p f=(p.IA[j] 9==5&&f 9 !=4) by unfold owB;rw[W,yj Y,show ((j:Int)== -1)=false by simp];rfl);have am:((j:Int) != -1)=true:=oS;rw[W] at J;generalize p.IA[j] 9=y at cj g;by_cases b:y=5
  rotate_left
  ·have a:=hid (show dbB p n f=false by unfold dbB;rw[g.out,show (y==5)=false by simpa using b];rfl);have ad:(y !=5)=true:=by simpa using b
   go_enter Tryz.func157,Tryz.ntmps157
   go_wp2_with fail
   go_quiet (fail)
   have BS:=hid (aE d nq);generalize World.drewN _ _=m at BS ⊢;go_wp2_with fail
   go_ret
   exact⟨by rw[a.out];rfl,BS.out⟩
  subst b;by_cases o:f 9=4
  ·have a:=hid (show dbB p n f=false by unfold dbB;rw[g.out,o];rfl);rw[o] at K;go_enter Tryz.func157,Tryz.ntmps157
   go_wp2_with fail
   go_quiet (fail)
   have BS:=hid (aE d nq);generalize World.drewN _ _=m at BS ⊢;go_wp2_with fail
   go_ret
   exact⟨by rw[a.out];rfl,BS.out⟩
  have a:=hid (show owB p f=true by rw[g.out];simp[o]);have ai:(f 9==4)=false:=by simpa using o
 case' pos=>
  have a:=hid (show owB p f=true by unfold owB;rw[G];rfl);rw[G] at J
 all_goals
  go_enter Tryz.func157,Tryz.ntmps157
  go_wp2_with fail
  go_quiet (fail)
  have BS:=hid (aE d nq);have U:(((w.alloc (.cells (cf 20 f).toArray 45)).drewN nq)).cell? ⟨vb,3,none⟩=some (V 3):=T;have Q:=hid (show ((w.alloc (.cells (cf 20 f).toArray 45)).drewN nq).rangeAt w.heap.size 0 (cf 20 f) from E);generalize World.drewN _ _=m at BS U Q ⊢;clear T J K S0;go_wp2_with fail
  clear U
  go_loopw [7,37] (fun t i wr=>∃k c:Nat,k<=p.IA.length∧i=.int .i64 k∧t=.int .i64 c∧Hid (c=ec (ow n) (p.IA.take k))∧Hid (Below m.heap.size m wr)) (fun _ i _=>p.IA.length - (intOf i).toNat)
  case atStart=>exact⟨0,0,oA,rfl,rfl,hid rfl,hid (ag _ _)⟩
  case round=>
   obtain⟨k,c,hk,rfl,rfl,x,h⟩:=hrel;have D:=hid (btr BS h);by_cases Z:k<p.IA.length
   ·have an:(k:Int)<(p.IA.length:Int):=oA;have H:=N.out oA
    try subst H
    have F:=hid (dN (P.out k Z) D);have hc:(c:Int)<=1000:=by
     have:=mh (ow n) 1 k p.IA fun z _=>Ha n z;have:=x.out;omega
    have C:=hid (show ec (ow n) (p.IA.take (k+1))=c+ow n p.IA[k] by rw[jO _ Z, <-x.out]);generalize p.IA[k]=z at F C;have R:=hid (aR wr zT 45 wr.heap.size 20 rfl oD);have l:=hid (World.rangeAt_setCells_same _ wr.heap.size 0 (cf 20 z) (by rw[az];exact R));have e:=hid (bX (bal (ag wr.heap.size wr) (.cells zT 45)) (aq _) (cf 20 z) 0);have X:(Tryz.prog.info? 45).map (·.size)=some (cf 20 z).length:=by rw[az];exact iC
    have M:=hid X;have O:=hid (show (Tryz.prog.info? 45).map (·.size)=some (cf 20 z).toArray.size by rw[List.size_toArray];exact X);have ac:(cf 20 z).toArray.size=20:=by simp[hV]
    have S:=hid (show (wr.alloc (.cells zT 45)).there wr.heap.size 0 (cf 20 z).toArray.size by rw[ac];exact R);by_cases I:z 17=n
    ·have B:=hid (show c+1=ec (ow n) (p.IA.take (k+1)) by rw[C.out];unfold ow;rw[ah I]);go_wp2_with (first
      |((with_reducible refine gst 45 ?_);refine wpList_store_mid rfl 45 _ _ rfl wr.heap.size 0 (cf 20 z).toArray rfl rfl S O (all_oneCell_toArray (cC 20 z)) ?_;generalize World.setCells _ _ _ _=W5 at l e ⊢;have ab:=eH l 17 oA)
      |((with_reducible refine gld 45 ?_);refine wpList_load_mid rfl 45 _ rfl b3 (aa+k*20) rfl (cf 20 z) _ F Tryz.underlying45 rfl M ?_))
     have u:=hid (btr h e);exact⟨⟨k+1,c+1,oA,by go_num,by go_num,B,u⟩,by simp[intOf];omega⟩
    ·have B:=hid (show c=ec (ow n) (p.IA.take (k+1)) by rw[C.out];unfold ow;rw[ae I];rfl);have ao:(z 17==n)=false:=by simpa using I
     go_wp2_with (first
      |((with_reducible refine gst 45 ?_);refine wpList_store_mid rfl 45 _ _ rfl wr.heap.size 0 (cf 20 z).toArray rfl rfl S O (all_oneCell_toArray (cC 20 z)) ?_;generalize World.setCells _ _ _ _=W5 at l e ⊢;have ab:=eH l 17 oA)
      |((with_reducible refine gld 45 ?_);refine wpList_load_mid rfl 45 _ rfl b3 (aa+k*20) rfl (cf 20 z) _ F Tryz.underlying45 rfl M ?_))
     have u:=hid (btr h e);exact⟨⟨k+1,c,oA,by go_num,rfl,B,u⟩,by simp[intOf];omega⟩
   ·obtain rfl:k=p.IA.length:=oA;have aj:¬((p.IA.length:Int)<(p.IA.length:Int)):=oA;have L:=hid (show ec (ow n) p.IA=c by rw[x.out,sC]);have K:=eH (bj Q h) 9 oA;by_cases b:f 9=5
    ·have A:=hid (show dbB p n f=((c:Int)==1) by unfold dbB;rw[a.out,L.out,ah b];rfl);go_wp2_with fail
     go_ret
     exact⟨by rw[A.out];rfl,D.out⟩
    ·have A:=hid (show dbB p n f=((c:Int)==0) by unfold dbB;rw[a.out,L.out,ae b];rfl);have ad:(f 9==5)=false:=by simpa using b
     go_wp2_with fail
     go_ret
     exact⟨by rw[A.out];rfl,D.out⟩
def pl (s:Int):Int:=if s=2∨s=3∨s=4 then 7 else if s=6 then 8 else 0
theorem su (s:Int) (w:World):Calls Tryz.prog 177 #[.int .i64 s] w fun r w'=>r=.returned (.int .i64 (pl s))∧w=w':=by
 by_cases b:s=2
 ·subst b;go_enter Tryz.func177,Tryz.ntmps177
  go_wp2_with fail
  go_ret
  exact⟨rfl,rfl⟩
 by_cases c:s=3
 ·subst c;go_enter Tryz.func177,Tryz.ntmps177
  go_wp2_with fail
  go_ret
  exact⟨rfl,rfl⟩
 by_cases d:s=4
 ·subst d;go_enter Tryz.func177,Tryz.ntmps177
  go_wp2_with fail
  go_ret
  exact⟨rfl,rfl⟩
 by_cases a:s=6
 ·subst a;go_enter Tryz.func177,Tryz.ntmps177
  go_wp2_with fail
  go_ret
  exact⟨rfl,rfl⟩
 have e:=hid (show pl s=0 by unfold pl;rw[ae oA,ae a]);have f:(s==2)=false:=by simpa using b
 have g:(s==3)=false:=by simpa using c
 have h:(s==4)=false:=by simpa using d
 have i:(s==6)=false:=by simpa using a
 go_enter Tryz.func177,Tryz.ntmps177
 go_wp2_with fail
 go_ret
 exact⟨by rw[e.out];rfl,rfl⟩
def rrB (p:PW) (n:Int) (f:Nat->Int):Bool:=if f 9=1 then ((cn n p.IC+cna n p.ready:Nat):Int)==1 else ((cn n p.IC+cna n p.ready:Nat):Int)==0
theorem pK (vb:Nat) (V:Nat->Value) (p:PW) (n:Int) (f:Nat->Int) (w:World) (a:ei w vb V p):
  Calls Tryz.prog 159 #[.pointer (some ⟨vb,0,none⟩),.int .i64 n,.agg (cf 20 f).toArray] w fun r w'=>r=.returned (.bool (rrB p n f))∧Below w.heap.size w w':=by
 have c:=hid (bal (ag w.heap.size w) (.cells (cf 20 f).toArray 45));have o:=hid (DL w f 45);have q:=r11 6 (a.below c).r;have s:=r11 7 (a.below c).r;have g:=hid (show ∀m,Calls Tryz.prog 178 #[V 6,.int .i64 n] ((w.alloc (.cells (cf 20 f).toArray 45)).drewN m) fun r w'=>r=.returned (.int .i64 (cn n p.IC))∧w'=((w.alloc (.cells (cf 20 f).toArray 45)).drewN m) from fun m=>(mB (V 6) p.IC n _ (a.v.IC.below (aE c m)) a.f.IC).mono fun _ _ h=>⟨h.1,h.2.symm⟩);have i:=hid (show ∀m,Calls Tryz.prog 176 #[V 7,.int .i64 n] ((w.alloc (.cells (cf 20 f).toArray 45)).drewN m) fun r w'=>r=.returned (.int .i64 (cna n p.ready))∧w'=((w.alloc (.cells (cf 20 f).toArray 45)).drewN m) from fun m=>(lF (V 7) p.ready n _ (a.v.ready.below (aE c m)) a.f.ready a.f.next).mono fun _ _ h=>⟨h.1,h.2.symm⟩);have t:(cn n p.IC:Int)<=1000:=by have:=BW n p.IC;have:=a.f.IC;omega
 have u:(cna n p.ready:Int)<=1000000:=by have:=oQ n p.ready p.ready.length a.f.next;rw[cT] at this;have:=a.f.ready;omega
 have b:=hid (show rrB p n f=if f 9=1 then ((cn n p.IC:Int)+(cna n p.ready:Int)==1) else ((cn n p.IC:Int)+(cna n p.ready:Int)==0) by unfold rrB;rw[Int.natCast_add]);generalize V 6=A at q g;generalize V 7=B at s i;generalize cn n p.IC=j at g t b;generalize cna n p.ready=k at i u b;have z:IntKind.i64.wrap ((j:Int)+(k:Int))=(j:Int)+(k:Int):=bZ _ oA oA;go_enter Tryz.func159,Tryz.ntmps159
 go_wp2_with fail
 go_quiet (first|(go_at_call 178;refine bD (g.out _))|(go_at_call 176;refine bD (i.out _)))
 have e:=hid (aE c nq);have l:((w.alloc (.cells (cf 20 f).toArray 45)).drewN nq).cell? ⟨w.heap.size,9,none⟩=some (.int .i64 (f 9)):=eH o 9 oA;generalize World.drewN _ _=x at e l ⊢;by_cases d:f 9=1
 ·rw[ah d] at b;rw[d] at l;go_wp2_with fail
  go_ret
  exact⟨by rw[b.out];rfl,e.out⟩
 ·rw[ae d] at b;have y:(f 9==1)=false:=by simpa using d
  go_wp2_with fail
  go_ret
  exact⟨by rw[b.out];rfl,e.out⟩
theorem sg (d:Nat) (a b:Int) (w:World):(Op.equalIn (d+1) 3 (.int .i64 a) (.int .i64 b)).run Tryz.prog w=.ok (a==b) w:=by
 rw[run_equalIn_int w d 3 .i64 .i64 _ _ Tryz.underlying3]
theorem Aj (f g:Nat->Int) (d:Nat) (w:World):(Op.equalIn (d+2) 43 (.agg #[.int .i64 (f 0),.int .i64 (f 1),.int .i64 (f 2),.int .i64 (f 3),.int .i64 (f 4),.int .i64 (f 5),.int .i64 (f 6),.int .i64 (f 7)]) (.agg #[.int .i64 (g 0),.int .i64 (g 1),.int .i64 (g 2),.int .i64 (g 3),.int .i64 (g 4),.int .i64 (g 5),.int .i64 (g 6),.int .i64 (g 7)])).run Tryz.prog w=.ok (decide (f 0=g 0∧f 1=g 1∧f 2=g 2∧f 3=g 3∧f 4=g 4∧f 5=g 5∧f 6=g 6∧f 7=g 7)) w:=by
 obtain⟨i,hi⟩:=wA;rw[run_equalIn_array w (d+1) _ _ Tryz.underlying43 hi,tw];have e:List.range 8=[0,1,2,3,4,5,6,7]:=rfl;rw[e];have a:∀(g:Nat->Int) (k:Nat) (h:k<8),(part 3 #[.int .i64 (g 0),.int .i64 (g 1),.int .i64 (g 2),.int .i64 (g 3),.int .i64 (g 4),.int .i64 (g 5),.int .i64 (g 6),.int .i64 (g 7)] k).run Tryz.prog w=.ok (.int .i64 (g k)) w:=fun g k h=>me _ k _ w (by
  have:k=0∨k=1∨k=2∨k=3∨k=4∨k=5∨k=6∨k=7:=oA;rcases this with rfl|rfl|rfl|rfl|rfl|rfl|rfl|rfl<;>rfl)
 have b:=a f;have c:=a g;simp[Op.eqItems,Sem.run_bind,b,c,sg];clear b c e hi
 (repeat' split)<;>simp_all
theorem Gi {f g:Nat->Int} (h:f 0=g 0∧f 1=g 1∧f 2=g 2∧f 3=g 3∧f 4=g 4∧f 5=g 5∧f 6=g 6∧f 7=g 7∧f 8=g 8∧f 9=g 9∧f 10=g 10∧f 11=g 11∧f 12=g 12∧f 13=g 13∧f 14=g 14∧f 15=g 15∧f 16=g 16∧f 17=g 17∧f 18=g 18∧f 19=g 19):∀k,k<20->f k=g k:=fun k hk=>by
 obtain⟨a0,a1,o,p,q,r,s,t,u,v,a,b,c,d,e,i,j,l,m,n⟩:=h
 match k,hk with
 |0,_=>exact a0
 |1,_=>exact a1
 |2,_=>exact o
 |3,_=>exact p
 |4,_=>exact q
 |5,_=>exact r
 |6,_=>exact s
 |7,_=>exact t
 |8,_=>exact u
 |9,_=>exact v
 |10,_=>exact a
 |11,_=>exact b
 |12,_=>exact c
 |13,_=>exact d
 |14,_=>exact e
 |15,_=>exact i
 |16,_=>exact j
 |17,_=>exact l
 |18,_=>exact m
 |19,_=>exact n
 |_+20,hk=>omega
theorem Dq (f g:Nat->Int) (c:¬∀k,k<20->f k=g k) (w:World):(Op.equalIn 10000 45 (.agg (cf 20 f).toArray) (.agg (cf 20 g).toArray)).run Tryz.prog w=.ok false w:=by
 have h:¬(f 0=g 0∧f 1=g 1∧f 2=g 2∧f 3=g 3∧f 4=g 4∧f 5=g 5∧f 6=g 6∧f 7=g 7∧f 8=g 8∧f 9=g 9∧f 10=g 10∧f 11=g 11∧f 12=g 12∧f 13=g 13∧f 14=g 14∧f 15=g 15∧f 16=g 16∧f 17=g 17∧f 18=g 18∧f 19=g 19):=fun e=>c (Gi e);have d:Tryz.prog.underlying 45=some (.struct (Tryz.prog.fieldsOf 45)):=oK;have i:Tryz.prog.stoodInHeld 45=false:=oK;rw[show (10000:Nat)=9999+1 from rfl,run_equalIn_struct w 9999 _ _ _ d i];simp only[Program.fieldsOf,Tryz.underlying45];have hi:∀a b:Int,(Op.equalIn 9999 3 (.int .i64 a) (.int .i64 b)).run Tryz.prog w=.ok (a==b) w:=fun a b=>sg 9998 a b w;have j:=Aj f g 9997 w;simp[Op.eqFields,Sem.run_bind,qM,j,xN,hi]
 (repeat' split)<;>first|rfl|simp_all
