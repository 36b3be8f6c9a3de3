/- Qac -/
import Derived.Test.YtaejnmmpddbbjaaGreatDoorQab
set_option maxRecDepth 100000
set_option maxHeartbeats 16000000
namespace Go.Proofs.YtaejnmmpddbbjaaGreatDoor
namespace Wd
open Go.RowKit Mem Bw Nums Mmu
def Told {α:Type} (w:World) (bad:Nat->α->Bool) (l:List α) (e:Int) (x:Value):Prop:=
 ((∀k (h:k<l.length),bad k l[k]=false)∧x=.nilIface)∨
 ∃(k b:Nat) (h:k<l.length),bad k l[k]=true∧(∀j (h:j<l.length),j<k->bad j l[j]=false)∧x=.iface 59 (.pointer (some ⟨b,0,none⟩))∧w.cell? ⟨b,0,none⟩=some (.int .i64 k)∧w.cell? ⟨b,1,none⟩=some (.iface 36 (.int .i64 e))
theorem jJ (N:Nat) (first:Array Value) (a:Nat->Int->Bool) (e:Int) (v:Value) (zs:List Int) (w:World) (K:ed w v zs) (hl:zs.length<=1000) (M:∀p (W:World),(callFunc N p).run Tryz.prog W=.ok (.enter N p) W)
  (hC:∀(k:Nat) (hk:k<zs.length) (W:World),Below w.heap.size w W->Calls Tryz.prog N (first++#[.int .i64 k,.int .i64 zs[k]]) W fun r w'=>r=.returned (.bool (a k zs[k]))∧Below W.heap.size W w'):
  Calls Tryz.prog 99 #[.nilIface,v,.func (.func N) first #[],.int .i64 e] w fun r w'=>∃x,r=.returned x∧Told w' a zs e x∧Below w.heap.size w w':=by
 obtain⟨q,b,off,cap,rfl,I,L⟩:=K;have y:=hid I;have B:=hid L;have s:=hid hC;have Q:(zs.length:Int)<=1000:=oA;go_enter Tryz.func99,Tryz.ntmps99
 go_wp2_with fail
 go_loopw [16] (fun i wr=>∃k:Nat,k<=zs.length∧i=.int .i64 k∧Hid (∀j (f:j<zs.length),j<k->a j zs[j]=false)∧Hid (Below w.heap.size w wr)) (fun i _=>zs.length - (intOf i).toNat)
 case atStart=>exact⟨0,oA,rfl,hid fun j _ h=>oA,hid (ag _ _)⟩
 case round=>
  obtain⟨k,hk,rfl,d,c⟩:=hrel;by_cases g:k<zs.length
  ·have R:(k:Int)<(zs.length:Int):=oA;have J:=y.out oA;subst J;have c0:=(B.below c) k g;have m:=hid (s.out k g wr c);have o:=hid (fun (W:World) (b:Nat) (x:Value) (C:a k zs[k]=true) (D:x=.iface 59 (.pointer (some ⟨b,0,none⟩))) (E:W.cell? ⟨b,0,none⟩=some (.int .i64 k)) (F:W.cell? ⟨b,1,none⟩=some (.iface 36 (.int .i64 e)))=>show Told W a zs e x from .inr ⟨k,b,g,C,d.out,D,E,F⟩);have n:=hid (show a k zs[k]=false->∀j (f:j<zs.length),j<k+1->a j zs[j]=false from fun H j f P=>by
    by_cases e:j=k
    ·subst e;exact H
    ·exact d j f oA)
   generalize zs[k]=z at c0 m o n;go_wp2_with fail
   refine m.mono ?_;rintro r w1 ⟨rfl,G⟩;have l:=hid (btr c G)
   cases hn:a k z with
   |true=>
    have A:=hid (o.out (w1.alloc (.cells #[.int .i64 k,.iface 36 (.int .i64 e)] 63)) w1.heap.size _ hn rfl (bM w1 #[.int .i64 k,.iface 36 (.int .i64 e)] _ 0) (bM w1 #[.int .i64 k,.iface 36 (.int .i64 e)] _ 1));go_wp2_with fail
    go_ret
    exact⟨_,rfl,A.out,bal l _⟩
   |false=>
    have u:=hid (n.out hn);go_wp2_with fail
    exact⟨⟨k+1,oA,by go_num,u,l⟩,by simp[intOf];omega⟩
  ·obtain rfl:k=zs.length:=oA;have O:¬((zs.length:Int)<(zs.length:Int)):=oA;have t:=hid (show ∀k (h:k<zs.length),a k zs[k]=false from fun k h=>d.out k h h);go_wp2_with fail
   go_ret
   exact⟨_,rfl,.inl ⟨t.out,rfl⟩,c.out⟩
theorem oe (N:Nat) (first:Array Value) (a:Nat->List Int->Bool) (e:Int) (v:Value) (zs:List (List Int)) (w:World) (M:gA w v zs) (hl:zs.length<=1000) (Q:∀p (W:World),(callFunc N p).run Tryz.prog W=.ok (.enter N p) W)
  (hC:∀(k:Nat) (hk:k<zs.length) (W:World) (x:Value),Below w.heap.size w W->ed W x zs[k]->Calls Tryz.prog N (first++#[.int .i64 k,x]) W fun r w'=>r=.returned (.bool (a k zs[k]))∧Below W.heap.size W w'):
  Calls Tryz.prog 108 #[.nilIface,v,.func (.func N) first #[],.int .i64 e] w fun r w'=>∃x,r=.returned x∧Told w' a zs e x∧Below w.heap.size w w':=by
 obtain⟨q,b,off,cap,rfl,K,P⟩:=M;have B:=hid K;have D:=hid P;have t:=hid hC;have T:(zs.length:Int)<=1000:=oA;go_enter Tryz.func108,Tryz.ntmps108
 go_wp2_with fail
 go_loopw [16] (fun i wr=>∃k:Nat,k<=zs.length∧i=.int .i64 k∧Hid (∀j (f:j<zs.length),j<k->a j zs[j]=false)∧Hid (Below w.heap.size w wr)) (fun i _=>zs.length - (intOf i).toNat)
 case atStart=>exact⟨0,oA,rfl,hid fun j _ h=>oA,hid (ag _ _)⟩
 case round=>
  obtain⟨k,hk,rfl,d,c⟩:=hrel;by_cases g:k<zs.length
  ·have U:(k:Int)<(zs.length:Int):=oA;have L:=B.out oA;subst L;obtain⟨y,s,O⟩:=D.out k g;have c0:=(c.cell (aj _ _ s)).trans s;have m:=hid (t.out k g wr y c (O.below c));have o:=hid (fun (W:World) (b:Nat) (x:Value) (E:a k zs[k]=true) (F:x=.iface 59 (.pointer (some ⟨b,0,none⟩))) (G:W.cell? ⟨b,0,none⟩=some (.int .i64 k)) (H:W.cell? ⟨b,1,none⟩=some (.iface 36 (.int .i64 e)))=>show Told W a zs e x from .inr ⟨k,b,g,E,d.out,F,G,H⟩);have n:=hid (show a k zs[k]=false->∀j (f:j<zs.length),j<k+1->a j zs[j]=false from fun J j f S=>by
    by_cases e:j=k
    ·subst e;exact J
    ·exact d j f oA)
   generalize zs[k]=z at m o n;go_wp2_with fail
   refine m.mono ?_;rintro r w1 ⟨rfl,I⟩;have l:=hid (btr c I)
   cases hn:a k z with
   |true=>
    have C:=hid (o.out (w1.alloc (.cells #[.int .i64 k,.iface 36 (.int .i64 e)] 63)) w1.heap.size _ hn rfl (bM w1 #[.int .i64 k,.iface 36 (.int .i64 e)] _ 0) (bM w1 #[.int .i64 k,.iface 36 (.int .i64 e)] _ 1));go_wp2_with fail
    go_ret
    exact⟨_,rfl,C.out,bal l _⟩
   |false=>
    have A:=hid (n.out hn);go_wp2_with fail
    exact⟨⟨k+1,oA,by go_num,A,l⟩,by simp[intOf];omega⟩
  ·obtain rfl:k=zs.length:=oA;have R:¬((zs.length:Int)<(zs.length:Int)):=oA;have u:=hid (show ∀k (h:k<zs.length),a k zs[k]=false from fun k h=>d.out k h h);go_wp2_with fail
   go_ret
   exact⟨_,rfl,.inl ⟨u.out,rfl⟩,c.out⟩
theorem wW (N:Nat) (first:Array Value) (a:Nat->List Ent->Bool) (e:Int) (v:Value) (zs:List (List Ent)) (w:World) (O:iI w v zs) (hl:zs.length<=1000) (Q:∀p (W:World),(callFunc N p).run Tryz.prog W=.ok (.enter N p) W)
  (hC:∀(k:Nat) (hk:k<zs.length) (W:World) (x:Value),Below w.heap.size w W->jk W x zs[k]->vx x->Calls Tryz.prog N (first++#[.int .i64 k,x]) W fun r w'=>r=.returned (.bool (a k zs[k]))∧Below W.heap.size W w'):
  Calls Tryz.prog 113 #[.nilIface,v,.func (.func N) first #[],.int .i64 e] w fun r w'=>∃x,r=.returned x∧Told w' a zs e x∧Below w.heap.size w w':=by
 obtain⟨q,b,off,cap,rfl,L,P⟩:=O;have C:=hid L;have E:=hid P;have u:=hid hC;have T:(zs.length:Int)<=1000:=oA;go_enter Tryz.func113,Tryz.ntmps113
 go_wp2_with fail
 go_loopw [16] (fun i wr=>∃k:Nat,k<=zs.length∧i=.int .i64 k∧Hid (∀j (f:j<zs.length),j<k->a j zs[j]=false)∧Hid (Below w.heap.size w wr)) (fun i _=>zs.length - (intOf i).toNat)
 case atStart=>exact⟨0,oA,rfl,hid fun j _ h=>oA,hid (ag _ _)⟩
 case round=>
  obtain⟨k,hk,rfl,d,c⟩:=hrel;by_cases g:k<zs.length
  ·have U:(k:Int)<(zs.length:Int):=oA;have M:=C.out oA;subst M;obtain⟨y,s,t⟩:=E.out k g;have c0:=(c.cell (aj _ _ s)).trans s;have m:=hid (u.out k g wr y c (t.1.below c) t.2);have o:=hid (fun (W:World) (b:Nat) (x:Value) (F:a k zs[k]=true) (G:x=.iface 59 (.pointer (some ⟨b,0,none⟩))) (H:W.cell? ⟨b,0,none⟩=some (.int .i64 k)) (I:W.cell? ⟨b,1,none⟩=some (.iface 36 (.int .i64 e)))=>show Told W a zs e x from .inr ⟨k,b,g,F,d.out,G,H,I⟩);have n:=hid (show a k zs[k]=false->∀j (f:j<zs.length),j<k+1->a j zs[j]=false from fun K j f S=>by
    by_cases e:j=k
    ·subst e;exact K
    ·exact d j f oA)
   generalize zs[k]=z at m o n;go_wp2_with fail
   refine m.mono ?_;rintro r w1 ⟨rfl,J⟩;have l:=hid (btr c J)
   cases hn:a k z with
   |true=>
    have D:=hid (o.out (w1.alloc (.cells #[.int .i64 k,.iface 36 (.int .i64 e)] 63)) w1.heap.size _ hn rfl (bM w1 #[.int .i64 k,.iface 36 (.int .i64 e)] _ 0) (bM w1 #[.int .i64 k,.iface 36 (.int .i64 e)] _ 1));go_wp2_with fail
    go_ret
    exact⟨_,rfl,D.out,bal l _⟩
   |false=>
    have B:=hid (n.out hn);go_wp2_with fail
    exact⟨⟨k+1,oA,by go_num,B,l⟩,by simp[intOf];omega⟩
  ·obtain rfl:k=zs.length:=oA;have R:¬((zs.length:Int)<(zs.length:Int)):=oA;have A:=hid (show ∀k (h:k<zs.length),a k zs[k]=false from fun k h=>d.out k h h);go_wp2_with fail
   go_ret
   exact⟨_,rfl,.inl ⟨A.out,rfl⟩,c.out⟩
theorem uW (N:Nat) (first:Array Value) (a:Nat->(Nat->Int)->Bool) (e:Int) (v:Value) (zs:List (Nat->Int)) (w:World) (V:RowsIn 7 w v zs) (hl:zs.length<=1000) (Y:∀A (W:World),(callFunc N A).run Tryz.prog W=.ok (.enter N A) W)
  (hC:∀(k:Nat) (hk:k<zs.length) (W:World),Below w.heap.size w W->Calls Tryz.prog N (first++#[.int .i64 k,.agg (cf 7 zs[k]).toArray]) W fun r w'=>r=.returned (.bool (a k zs[k]))∧Below W.heap.size W w'):
  Calls Tryz.prog 103 #[.nilIface,v,.func (.func N) first #[],.int .i64 e] w fun r w'=>∃x,r=.returned x∧Told w' a zs e x∧Below w.heap.size w w':=by
 obtain⟨q,b,off,cap,rfl,T,X⟩:=V;have F:=hid T;have I:=hid X;have C:=hid hC;have ab:(zs.length:Int)<=1000:=oA;go_enter Tryz.func103,Tryz.ntmps103
 go_wp2_with fail
 go_loopw [16] (fun i wr=>∃k:Nat,k<=zs.length∧i=.int .i64 k∧Hid (∀j (g:j<zs.length),j<k->a j zs[j]=false)∧Hid (Below w.heap.size w wr)) (fun i _=>zs.length - (intOf i).toNat)
 case atStart=>exact⟨0,oA,rfl,hid fun j _ h=>oA,hid (ag _ _)⟩
 case round=>
  obtain⟨k,hk,rfl,f,c⟩:=hrel;by_cases l:k<zs.length
  ·have ac:(k:Int)<(zs.length:Int):=oA;have U:=F.out oA;subst U;have y:=hid (dN (I.out k l) c);have n:=hid (C.out k l);have s:=hid (fun (W:World) (b:Nat) (x:Value) (M:a k zs[k]=true) (O:x=.iface 59 (.pointer (some ⟨b,0,none⟩))) (P:W.cell? ⟨b,0,none⟩=some (.int .i64 k)) (Q:W.cell? ⟨b,1,none⟩=some (.iface 36 (.int .i64 e)))=>show Told W a zs e x from .inr ⟨k,b,l,M,f.out,O,P,Q⟩);have p:=hid (show a k zs[k]=false->∀j (g:j<zs.length),j<k+1->a j zs[j]=false from fun S j g aa=>by
    by_cases e:j=k
    ·subst e;exact S
    ·exact f j g oA)
   generalize zs[k]=z at y n s p;have u:=hid (aR wr zV 80 wr.heap.size 7 rfl oD);have t:=hid (World.rangeAt_setCells_same _ wr.heap.size 0 (cf 7 z) (by rw[az];exact u));have d:=hid (bX (bal (ag wr.heap.size wr) (.cells zV 80)) (aq _) (cf 7 z) 0);have B:(Tryz.prog.info? 80).map (·.size)=some (cf 7 z).length:=by rw[az];exact GR
   have o:=hid B;have G:=hid (show (Tryz.prog.info? 80).map (·.size)=some (cf 7 z).toArray.size by rw[List.size_toArray];exact B);have L:(cf 7 z).toArray.size=7:=by simp[hV]
   have J:=hid (show (wr.alloc (.cells zV 80)).there wr.heap.size 0 (cf 7 z).toArray.size by rw[L];exact u);go_wp2_with (first
    |((with_reducible refine gst 80 ?_);refine wpList_store_mid rfl 80 _ _ rfl wr.heap.size 0 (cf 7 z).toArray rfl rfl J G (all_oneCell_toArray (cC 7 z)) ?_;generalize World.setCells _ _ _ _=K at t d ⊢)
    |((with_reducible refine gld 80 ?_);refine wpList_load_mid rfl 80 _ rfl b (off+k*7) rfl (cf 7 z) _ y Tryz.underlying80 rfl o ?_)
    |((with_reducible refine gld 80 ?_);refine wpList_load_mid rfl 80 _ rfl wr.heap.size 0 rfl (cf 7 z) _ t Tryz.underlying80 rfl o ?_))
   refine (n.out K (btr c d)).mono ?_;rintro r w1 ⟨rfl,R⟩;have m:=hid (btr (btr c d) R)
   cases hn:a k z with
   |true=>
    have H:=hid (s.out (w1.alloc (.cells #[.int .i64 k,.iface 36 (.int .i64 e)] 63)) w1.heap.size _ hn rfl (bM w1 #[.int .i64 k,.iface 36 (.int .i64 e)] _ 0) (bM w1 #[.int .i64 k,.iface 36 (.int .i64 e)] _ 1));go_wp2_with fail
    go_ret
    exact⟨_,rfl,H.out,bal m _⟩
   |false=>
    have E:=hid (p.out hn);go_wp2_with fail
    exact⟨⟨k+1,oA,by go_num,E,m⟩,by simp[intOf];omega⟩
  ·obtain rfl:k=zs.length:=oA;have Z:¬((zs.length:Int)<(zs.length:Int)):=oA;have D:=hid (show ∀k (h:k<zs.length),a k zs[k]=false from fun k h=>f.out k h h);go_wp2_with fail
   go_ret
   exact⟨_,rfl,.inl ⟨D.out,rfl⟩,c.out⟩
theorem uX (N:Nat) (first:Array Value) (a:Nat->(Nat->Int)->Bool) (e:Int) (v:Value) (zs:List (Nat->Int)) (w:World) (V:RowsIn 20 w v zs) (hl:zs.length<=1000) (Y:∀A (W:World),(callFunc N A).run Tryz.prog W=.ok (.enter N A) W)
  (hC:∀(k:Nat) (hk:k<zs.length) (W:World),Below w.heap.size w W->Calls Tryz.prog N (first++#[.int .i64 k,.agg (cf 20 zs[k]).toArray]) W fun r w'=>r=.returned (.bool (a k zs[k]))∧Below W.heap.size W w'):
  Calls Tryz.prog 106 #[.nilIface,v,.func (.func N) first #[],.int .i64 e] w fun r w'=>∃x,r=.returned x∧Told w' a zs e x∧Below w.heap.size w w':=by
 obtain⟨q,b,off,cap,rfl,T,X⟩:=V;have F:=hid T;have I:=hid X;have C:=hid hC;have ab:(zs.length:Int)<=1000:=oA;go_enter Tryz.func106,Tryz.ntmps106
 go_wp2_with fail
 go_loopw [16] (fun i wr=>∃k:Nat,k<=zs.length∧i=.int .i64 k∧Hid (∀j (g:j<zs.length),j<k->a j zs[j]=false)∧Hid (Below w.heap.size w wr)) (fun i _=>zs.length - (intOf i).toNat)
 case atStart=>exact⟨0,oA,rfl,hid fun j _ h=>oA,hid (ag _ _)⟩
 case round=>
  obtain⟨k,hk,rfl,f,c⟩:=hrel;by_cases l:k<zs.length
  ·have ac:(k:Int)<(zs.length:Int):=oA;have U:=F.out oA;subst U;have y:=hid (dN (I.out k l) c);have n:=hid (C.out k l);have s:=hid (fun (W:World) (b:Nat) (x:Value) (M:a k zs[k]=true) (O:x=.iface 59 (.pointer (some ⟨b,0,none⟩))) (P:W.cell? ⟨b,0,none⟩=some (.int .i64 k)) (Q:W.cell? ⟨b,1,none⟩=some (.iface 36 (.int .i64 e)))=>show Told W a zs e x from .inr ⟨k,b,l,M,f.out,O,P,Q⟩);have p:=hid (show a k zs[k]=false->∀j (g:j<zs.length),j<k+1->a j zs[j]=false from fun S j g aa=>by
    by_cases e:j=k
    ·subst e;exact S
    ·exact f j g oA)
   generalize zs[k]=z at y n s p;have u:=hid (aR wr zT 45 wr.heap.size 20 rfl oD);have t:=hid (World.rangeAt_setCells_same _ wr.heap.size 0 (cf 20 z) (by rw[az];exact u));have d:=hid (bX (bal (ag wr.heap.size wr) (.cells zT 45)) (aq _) (cf 20 z) 0);have B:(Tryz.prog.info? 45).map (·.size)=some (cf 20 z).length:=by rw[az];exact iC
   have o:=hid B;have G:=hid (show (Tryz.prog.info? 45).map (·.size)=some (cf 20 z).toArray.size by rw[List.size_toArray];exact B);have L:(cf 20 z).toArray.size=20:=by simp[hV]
   have J:=hid (show (wr.alloc (.cells zT 45)).there wr.heap.size 0 (cf 20 z).toArray.size by rw[L];exact u);go_wp2_with (first
    |((with_reducible refine gst 45 ?_);refine wpList_store_mid rfl 45 _ _ rfl wr.heap.size 0 (cf 20 z).toArray rfl rfl J G (all_oneCell_toArray (cC 20 z)) ?_;generalize World.setCells _ _ _ _=K at t d ⊢)
    |((with_reducible refine gld 45 ?_);refine wpList_load_mid rfl 45 _ rfl b (off+k*20) rfl (cf 20 z) _ y Tryz.underlying45 rfl o ?_)
    |((with_reducible refine gld 45 ?_);refine wpList_load_mid rfl 45 _ rfl wr.heap.size 0 rfl (cf 20 z) _ t Tryz.underlying45 rfl o ?_))
   refine (n.out K (btr c d)).mono ?_;rintro r w1 ⟨rfl,R⟩;have m:=hid (btr (btr c d) R)
   cases hn:a k z with
   |true=>
    have H:=hid (s.out (w1.alloc (.cells #[.int .i64 k,.iface 36 (.int .i64 e)] 63)) w1.heap.size _ hn rfl (bM w1 #[.int .i64 k,.iface 36 (.int .i64 e)] _ 0) (bM w1 #[.int .i64 k,.iface 36 (.int .i64 e)] _ 1));go_wp2_with fail
    go_ret
    exact⟨_,rfl,H.out,bal m _⟩
   |false=>
    have E:=hid (p.out hn);go_wp2_with fail
    exact⟨⟨k+1,oA,by go_num,E,m⟩,by simp[intOf];omega⟩
  ·obtain rfl:k=zs.length:=oA;have Z:¬((zs.length:Int)<(zs.length:Int)):=oA;have D:=hid (show ∀k (h:k<zs.length),a k zs[k]=false from fun k h=>f.out k h h);go_wp2_with fail
   go_ret
   exact⟨_,rfl,.inl ⟨D.out,rfl⟩,c.out⟩
theorem ue (b:Nat) (v a:Value) (e:Int) (w:World):
  Calls Tryz.prog 99 #[.iface 59 (.pointer (some ⟨b,0,none⟩)),v,a,.int .i64 e] w fun r w'=>r=.returned (.iface 59 (.pointer (some ⟨b,0,none⟩)))∧w=w':=by
 go_enter Tryz.func99,Tryz.ntmps99
 go_wp2_with fail
 go_ret
 exact⟨rfl,rfl⟩
theorem _root_.Go.Proofs.YtaejnmmpddbbjaaGreatDoor.eB:type_of% @ue:= @ue
theorem fm (b:Nat) (v a:Value) (e:Int) (w:World):
  Calls Tryz.prog 108 #[.iface 59 (.pointer (some ⟨b,0,none⟩)),v,a,.int .i64 e] w fun r w'=>r=.returned (.iface 59 (.pointer (some ⟨b,0,none⟩)))∧w=w':=by
 go_enter Tryz.func108,Tryz.ntmps108
 go_wp2_with fail
 go_ret
 exact⟨rfl,rfl⟩
theorem gl (b:Nat) (v a:Value) (e:Int) (w:World):
  Calls Tryz.prog 113 #[.iface 59 (.pointer (some ⟨b,0,none⟩)),v,a,.int .i64 e] w fun r w'=>r=.returned (.iface 59 (.pointer (some ⟨b,0,none⟩)))∧w=w':=by
 go_enter Tryz.func113,Tryz.ntmps113
 go_wp2_with fail
 go_ret
 exact⟨rfl,rfl⟩
theorem lA (b:Nat) (v a:Value) (e:Int) (w:World):
  Calls Tryz.prog 103 #[.iface 59 (.pointer (some ⟨b,0,none⟩)),v,a,.int .i64 e] w fun r w'=>r=.returned (.iface 59 (.pointer (some ⟨b,0,none⟩)))∧w=w':=by
 go_enter Tryz.func103,Tryz.ntmps103
 go_wp2_with fail
 go_ret
 exact⟨rfl,rfl⟩
theorem iQ (b:Nat) (v a:Value) (e:Int) (w:World):
  Calls Tryz.prog 106 #[.iface 59 (.pointer (some ⟨b,0,none⟩)),v,a,.int .i64 e] w fun r w'=>r=.returned (.iface 59 (.pointer (some ⟨b,0,none⟩)))∧w=w':=by
 go_enter Tryz.func106,Tryz.ntmps106
 go_wp2_with fail
 go_ret
 exact⟨rfl,rfl⟩
structure ei (w:World) (vb:Nat) (V:Nat->Value) (p:PW):Prop where
 r:w.rangeAt vb 0 (cb V).toList
 v:fy w V p
 f:p.Fits
theorem ei.below {w w':World} {vb:Nat} {V:Nat->Value} {p:PW} (h:ei w vb V p) (a:Below w.heap.size w w'):ei w' vb V p:=⟨bj h.r a,h.v.below a,h.f⟩
def fI (p:PW) (f:Int):Option Int:=if 0<=f then p.kinds[f.toNat]? else none
def isB (p:PW) (f k:Int):Bool:=fI p f==some k
theorem gy {p:PW} {j:Nat} (h:j<p.kinds.length):fI p (j:Int)=some p.kinds[j]:=by
 unfold fI;rw[ah oA,af,ac h]
theorem mO {p:PW} {f:Int} (h:¬(0<=f∧f<=(p.kinds.length:Int) - 1)):fI p f=none:=by
 unfold fI;split
 ·rw[aH oA]
 ·rfl
def frB (p:PW) (n:Int):Bool:=decide (0<=n∧n<=(p.kinds.length:Int) - 1)
theorem lL (vb:Nat) (V:Nat->Value) (p:PW) (n:Int) (w:World) (a:ei w vb V p):
  Calls Tryz.prog 184 #[.pointer (some ⟨vb,0,none⟩),.int .i64 n] w fun r w'=>r=.returned (.bool (frB p n))∧w=w':=by
 have c1:=r11 1 a.r;obtain⟨q,b,off,cap,e1,e,g⟩:=a.v.kinds;have hl:(p.kinds.length:Int)<=1000:=by have:=a.f.kinds;omega
 have c:=hid (show frB p n=decide (0<=n∧n<=(p.kinds.length:Int) - 1) from rfl);go_enter Tryz.func184,Tryz.ntmps184
 go_wp2_with fail
 refine (eD n 0 _ w).mono ?_;rintro r w1 ⟨rfl,rfl⟩;generalize decide (0<=n∧n<=(p.kinds.length:Int) - 1)=d at c ⊢;go_wp2_with fail
 go_ret
 exact⟨by rw[c.out];rfl,rfl⟩
theorem pC (vb:Nat) (V:Nat->Value) (p:PW) (f k:Int) (w:World) (a:ei w vb V p):
  Calls Tryz.prog 179 #[.pointer (some ⟨vb,0,none⟩),.int .i64 f,.int .i64 k] w fun r w'=>r=.returned (.bool (isB p f k))∧w=w':=by
 have c1:=r11 1 a.r;have i:=hid a;obtain⟨q,b,off,cap,e1,m,h⟩:=a.v.kinds;have hl:(p.kinds.length:Int)<=1000:=by have:=a.f.kinds;omega
 by_cases c:0<=f∧f<=(p.kinds.length:Int) - 1
 ·obtain⟨j,rfl⟩:∃j:Nat,f=j:=⟨f.toNat,oA⟩
  have l:j<p.kinds.length:=oA;have o:(j:Int)<(p.kinds.length:Int):=oA;have g:=hid (show frB p j=true from aA c);obtain rfl:=m oA;have n:=h j l;have d:=hid (show isB p (j:Int) k=(p.kinds[j]==k) by unfold isB;rw[gy l];rfl);generalize p.kinds[j]=z at n d;clear c h a;go_enter Tryz.func179,Tryz.ntmps179
  go_wp2_with fail
  refine (lL vb V p j w i).mono ?_;rintro e w1 ⟨rfl,rfl⟩;rw[g.out];go_wp2_with fail
  go_ret
  exact⟨by rw[d.out];rfl,rfl⟩
 ·have g:=hid (show frB p f=false from aw c);have d:=hid (show isB p f k=false by unfold isB;rw[mO c];rfl);clear c h m a;go_enter Tryz.func179,Tryz.ntmps179
  go_wp2_with fail
  refine (lL vb V p f w i).mono ?_;rintro e w1 ⟨rfl,rfl⟩;rw[g.out];go_wp2_with fail
  go_ret
  exact⟨by rw[d.out];rfl,rfl⟩
theorem jd (vb:Nat) (V:Nat->Value) (p:PW) (f k:Int) (w:World) (b:ei w vb V p):
  Calls Tryz.prog 160 #[.pointer (some ⟨vb,0,none⟩),.int .i64 f,.int .i64 k] w fun r w'=>r=.returned (.bool (isB p f k))∧w=w':=by
 have a:=hid b;go_enter Tryz.func160,Tryz.ntmps160
 go_wp2_with fail
 refine (pC vb V p f k w a).mono ?_;rintro e w1 ⟨rfl,rfl⟩;go_wp2_with fail
 go_ret
 exact⟨rfl,rfl⟩
def fG (p:PW) (f k:Int):Bool:=f== -1||isB p f k
theorem mb (vb:Nat) (V:Nat->Value) (p:PW) (f k:Int) (w:World) (g:ei w vb V p):
  Calls Tryz.prog 175 #[.pointer (some ⟨vb,0,none⟩),.int .i64 f,.int .i64 k] w fun r w'=>r=.returned (.bool (fG p f k))∧w=w':=by
 have d:=hid g;by_cases c:f= -1
 ·have b:(f== -1)=true:=by simpa using c
  have a:=hid (show fG p f k=true by unfold fG;rw[b];rfl);go_enter Tryz.func175,Tryz.ntmps175
  go_wp2_with fail
  go_ret
  exact⟨by rw[a.out];rfl,rfl⟩
 ·have b:(f== -1)=false:=by simpa using c
  have a:=hid (show fG p f k=isB p f k by unfold fG;rw[b];rfl);go_enter Tryz.func175,Tryz.ntmps175
  go_wp2_with fail
  refine (jd vb V p f k w d).mono ?_;rintro e w1 ⟨rfl,rfl⟩;generalize isB p f k=h at a ⊢;go_wp2_with fail
  go_ret
  exact⟨by rw[a.out];rfl,rfl⟩
theorem oa (V:Nat->Value) (p:PW) (f:Int) (w:World) (k:fy w V p) (h:p.Fits):
  Calls Tryz.prog 125 #[.agg (cb V),.int .i64 f] w fun r w'=>r=.returned (.int .i64 ((fI p f).getD (-1)))∧Below w.heap.size w w':=by
 have m:=bM w (cb V) 28;have c:=hid (bal (ag w.heap.size w) (.cells (cb V) 28));obtain⟨q,b,off,cap,e1,i,l⟩:=k.kinds;have hl:(p.kinds.length:Int)<=1000:=by have:=h.kinds;omega
 by_cases d:0<=f∧f<=(p.kinds.length:Int) - 1
 ·obtain⟨j,rfl⟩:∃j:Nat,f=j:=⟨f.toNat,oA⟩
  have e:j<p.kinds.length:=oA;have s:(j:Int)<(p.kinds.length:Int):=oA;obtain rfl:=i oA;have g:=(l.below c) j e;have a:=hid (show (fI p (j:Int)).getD (-1)=p.kinds[j] by rw[gy e];rfl);generalize p.kinds[j]=z at g a;go_enter Tryz.func125,Tryz.ntmps125
  go_wp2_with fail
  go_ret
  exact⟨by rw[a.out];rfl,c.out⟩
 ·have a:=hid (show (fI p f).getD (-1)= -1 by rw[mO d];rfl);by_cases n:f<0
  ·clear d;go_enter Tryz.func125,Tryz.ntmps125
   go_wp2_with fail
   go_ret
   exact⟨by rw[a.out];rfl,c.out⟩
  ·have o:(p.kinds.length:Int)<=f:=oA;go_enter Tryz.func125,Tryz.ntmps125
   go_wp2_with fail
   go_ret
   exact⟨by rw[a.out];rfl,c.out⟩
def wB (v:Int):Bool:=decide (0<=v∧v<=65535)
theorem gM (v:Int) (w:World):
  Calls Tryz.prog 150 #[.int .i64 v] w fun e w'=>e=.returned (.bool (wB v))∧w=w':=by
 go_enter Tryz.func150,Tryz.ntmps150
 go_wp2_with fail
 refine (eD v 0 65535 w).mono ?_;rintro e w1 ⟨rfl,rfl⟩;have a:=hid (show wB v=decide (0<=v∧v<=65535) from rfl);generalize decide (0<=v∧v<=65535)=b at a ⊢;go_wp2_with fail
 go_ret
 exact⟨by rw[a.out];rfl,rfl⟩
def nwB (v:Int):Bool:= !wB v
theorem va (n v:Int) (w:World):
  Calls Tryz.prog 100 #[.int .i64 n,.int .i64 v] w fun e w'=>e=.returned (.bool (nwB v))∧w=w':=by
 go_enter Tryz.func100,Tryz.ntmps100
 go_wp2_with fail
 refine (gM v w).mono ?_;rintro e w1 ⟨rfl,rfl⟩;have a:=hid (show nwB v= !wB v from rfl);generalize wB v=b at a ⊢;go_wp2_with fail
 go_ret
 exact⟨by rw[a.out];rfl,rfl⟩
theorem tZ {w:World} {b o k:Nat} {cs:List Value} {v:Value} (h:w.rangeAt b o cs) (hk:cs[k]? =some v):w.cell? ⟨b,o+k,none⟩=some v:=h k v hk
theorem _root_.Go.Proofs.YtaejnmmpddbbjaaGreatDoor.cS:type_of% @tZ:= @tZ
theorem jU {p:PW} {f k:Int} (h:isB p f k=true):∃j:Nat,f=j∧j<p.kinds.length:=by
 unfold isB fI at h;split at h
 ·refine⟨f.toNat,oA,?_⟩;by_cases hl:f.toNat<p.kinds.length
  ·exact hl
  ·rw[aH oA] at h;exact absurd h oS
 ·exact absurd h oS
def nkB (k:Int):Bool:= !decide (0<=k∧k<=8)||k==1
theorem uZ (n k:Int) (w:World):
  Calls Tryz.prog 101 #[.int .i64 n,.int .i64 k] w fun e w'=>e=.returned (.bool (nkB k))∧w=w':=by
 by_cases a:0<=k∧k<=8
 ·have c:=hid (aA a);have b:=hid (show nkB k=(k==1) by unfold nkB;rw[aA a];rfl);go_enter Tryz.func101,Tryz.ntmps101
  go_wp2_with fail
  refine (eD k 0 8 w).mono ?_;rintro e w1 ⟨rfl,rfl⟩;rw[c.out];go_wp2_with fail
  go_ret
  exact⟨by rw[b.out];rfl,rfl⟩
 ·have c:=hid (aw a);have b:=hid (show nkB k=true by unfold nkB;rw[aw a];rfl);go_enter Tryz.func101,Tryz.ntmps101
  go_wp2_with fail
  refine (eD k 0 8 w).mono ?_;rintro e w1 ⟨rfl,rfl⟩;rw[c.out];go_wp2_with fail
  go_ret
  exact⟨by rw[b.out];rfl,rfl⟩
def rdB (p:PW) (t core:Int):Bool:=isB p t 6&&(match p.IA[t.toNat]? with|some f=>f 9==1&&f 18==core|none=>false)
theorem mM (vb:Nat) (V:Nat->Value) (p:PW) (t core:Int) (w:World) (h:ei w vb V p) (E:p.IA.length=p.kinds.length):
  Calls Tryz.prog 162 #[.pointer (some ⟨vb,0,none⟩),.int .i64 t,.int .i64 core] w fun r w'=>r=.returned (.bool (rdB p t core))∧w=w':=by
 have B:=r11 3 h.r;obtain⟨q,b,off,cap,e1,A,s⟩:=h.v.IA;have hl:(p.IA.length:Int)<=1000:=by have:=h.f.IA;omega
 have d:=hid h;by_cases g:isB p t 6=true
 ·obtain⟨j,rfl,C⟩:=jU g;have l:j<p.IA.length:=oA;have D:(j:Int)<(p.IA.length:Int):=oA;obtain rfl:=A oA;have z:=cS (s j l) (dm 20 _ 9 oA);have y:=cS (s j l) (dm 20 _ 18 oA);have a:=hid (show rdB p (j:Int) core=(p.IA[j] 9==1&&p.IA[j] 18==core) by unfold rdB;rw[g,af,ac l];rfl);have c:=hid g;generalize p.IA[j] 9=x at z a;generalize p.IA[j] 18=u at y a;by_cases n:x=1
  ·subst n;by_cases m:u=core
   ·subst m;go_enter Tryz.func162,Tryz.ntmps162
    go_wp2_with fail
    refine (jd vb V p j 6 w d).mono ?_;rintro e w1 ⟨rfl,rfl⟩;rw[c.out];go_wp2_with fail
    go_ret
    exact⟨by rw[a.out];simp,rfl⟩
   ·have k:(u==core)=false:=by simpa using m
    have i:=hid k;go_enter Tryz.func162,Tryz.ntmps162
    go_wp2_with fail
    refine (jd vb V p j 6 w d).mono ?_;rintro e w1 ⟨rfl,rfl⟩;rw[c.out];go_wp2_with fail
    go_ret
    exact⟨by rw[a.out,i.out];rfl,rfl⟩
  ·have k:(x==1)=false:=by simpa using n
   have i:=hid k;go_enter Tryz.func162,Tryz.ntmps162
   go_wp2_with fail
   refine (jd vb V p j 6 w d).mono ?_;rintro e w1 ⟨rfl,rfl⟩;rw[c.out];go_wp2_with fail
   go_ret
   exact⟨by rw[a.out,i.out];rfl,rfl⟩
 ·have o:isB p t 6=false:=by simpa using g
  have a:=hid (show rdB p t core=false by unfold rdB;rw[o];rfl);have c:=hid o;go_enter Tryz.func162,Tryz.ntmps162
  go_wp2_with fail
  refine (jd vb V p t 6 w d).mono ?_;rintro e w1 ⟨rfl,rfl⟩;rw[c.out];go_wp2_with fail
  go_ret
  exact⟨by rw[a.out];rfl,rfl⟩
def bcB (p:PW) (core t:Int):Bool:= !(t== -1)&& !rdB p t core
theorem rJ (vb:Nat) (V:Nat->Value) (p:PW) (core t:Int) (w:World) (g:ei w vb V p) (f:p.IA.length=p.kinds.length):
  Calls Tryz.prog 110 #[.pointer (some ⟨vb,0,none⟩),.int .i64 core,.int .i64 t] w fun r w'=>r=.returned (.bool (bcB p core t))∧w=w':=by
 have d:=hid g;have c:=hid f;by_cases b:t= -1
 ·subst b;have a:=hid (show bcB p core (-1)=false from rfl);go_enter Tryz.func110,Tryz.ntmps110
  go_wp2_with fail
  go_ret
  exact⟨by rw[a.out];rfl,rfl⟩
 ·have a:=hid (show bcB p core t= !rdB p t core by unfold bcB;rw[show (t== -1)=false by simpa using b];rfl);have i:(t != -1)=true:=by simpa using b
  go_enter Tryz.func110,Tryz.ntmps110
  go_wp2_with fail
  refine (mM vb V p t core w d c).mono ?_;rintro e w1 ⟨rfl,rfl⟩;generalize rdB p t core=h at a ⊢;go_wp2_with fail
  go_ret
  exact⟨by rw[a.out];rfl,rfl⟩
theorem fq:(Tryz.prog.info? 28).map (·.size)=some 11:=oK
theorem jV {ops:Array Oper} {rest:List Oper} {op:Oper} {a:Act} {w:World} {Q:Exit->Act->World->Prop} (d:op.guard=none) (x:Operand) (e:op.op=.load 28 x)
  (b:Nat) (f:a.eval x=.pointer (some ⟨b,0,none⟩)) (V:Nat->Value) (c:w.rangeAt b 0 (cb V).toList)
  (h:wpList Tryz.prog ops Q rest (a.put op.dst (.agg (cb V))) w):wpList Tryz.prog ops Q (op::rest) a w:=
 wpList_load_mid d 28 x e b 0 f (cb V).toList _ c Tryz.underlying28 rfl fq h
theorem nC (w:World) (V:Nat->Value) (t:TypeId):(w.alloc (.cells (cb V) t)).rangeAt w.heap.size 0 (cb V).toList:=fun k v hk=>by
 rw[aC,bM w (cb V) t k];simpa using hk
def rpB (p:PW) (t core prio:Int):Bool:=rdB p t core&&(decide (prio<0)||(match p.IA[t.toNat]? with|some f=>f 10==prio|none=>false))
theorem tx {p:PW} {f k:Int} (hk:k≠ -1):isB p f k=((fI p f).getD (-1)==k):=by
 unfold isB
 cases fI p f with
 |none=>simp[Ne.symm hk]
 |some z=>simp
def brB (p:PW) (n:Nat) (zs:List Int):Bool:=zs.any fun t=> !rpB p t ((n:Int)/4) ((n:Int)%4)
theorem vA {α:Type} {P:α->Bool} {zs:List α} (h:∀j (a:j<zs.length),P zs[j]=false):zs.any P=false:=by
 rw[bR];intro x b;obtain⟨j,a,rfl⟩:=List.mem_iff_getElem.1 b;simp[h j a]
theorem rI {α:Type} {P:α->Bool} {zs:List α} (j:Nat) (a:j<zs.length) (h:P zs[j]=true):zs.any P=true:=List.any_eq_true.2 ⟨_,av a,h⟩
theorem FJ {p:PW} {t core:Int} (h:rdB p t core=true):∃j:Nat,t=j∧j<p.kinds.length:=by
 unfold rdB at h;rw[am] at h;exact jU h.1
theorem pW (vb:Nat) (V:Nat->Value) (p:PW) (n:Nat) (x:Value) (zs:List Int) (w:World) (d:ei w vb V p) (O:p.IA.length=p.kinds.length) (P:ed w x zs) (hl:zs.length<=1000) (hn:(n:Int)<=1000):
  Calls Tryz.prog 111 #[.pointer (some ⟨vb,0,none⟩),.int .i64 n,x] w fun r w'=>r=.returned (.bool (brB p n zs))∧w=w':=by
 have S:=r11 3 d.r;obtain⟨q,b,off,cap,rfl,K,Q⟩:=P;obtain⟨q2,b2,ab,T,e1,L,R⟩:=d.v.IA;have Y:(p.IA.length:Int)<=1000:=by have:=d.f.IA;omega
 have Z:(zs.length:Int)<=1000:=oA;have D:=hid d;have t:=hid O;have B:=hid K;have F:=hid Q;have C:=hid L;have G:=hid R;go_enter Tryz.func111,Tryz.ntmps111
 go_wp2_with fail
 go_loopw [17] (fun i wr=>∃k:Nat,k<=zs.length∧i=.int .i64 k∧Hid (∀j (a:j<zs.length),j<k->(!rpB p zs[j] ((n:Int)/4) ((n:Int)%4))=false)∧Hid (w=wr)) (fun i _=>zs.length - (intOf i).toNat)
 case atStart=>exact⟨0,oA,rfl,hid fun j _ h=>oA,hid rfl⟩
 case round=>
  obtain⟨k,hk,rfl,o,E⟩:=hrel;obtain rfl:=E.out;by_cases u:k<zs.length
  ·have aa:(k:Int)<(zs.length:Int):=oA;have M:=B.out oA;subst M;have c0:=F.out k u;have l:=hid (show (!rpB p zs[k] ((n:Int)/4) ((n:Int)%4))=true->brB p n zs=true from fun h=>rI k u h);have s:=hid (show (!rpB p zs[k] ((n:Int)/4) ((n:Int)%4))=false->∀j (a:j<zs.length),j<k+1->(!rpB p zs[j] ((n:Int)/4) ((n:Int)%4))=false from fun I j a X=>by
    by_cases e:j=k
    ·subst e;exact I
    ·exact o j a oA)
   generalize zs[k]=z at c0 l s;go_wp2_with fail
   refine (mM vb V p z _ w D t).mono ?_;rintro r w1 ⟨rfl,rfl⟩
   cases hr:rdB p z ((n:Int)/4) with
   |true=>
    obtain⟨j,rfl,J⟩:=FJ hr;have a:j<p.IA.length:=by rw[t.out];exact J
    have W:(j:Int)<(p.IA.length:Int):=oA;have N:=C.out oA;subst N;have H:=cS (G.out j a) (dm 20 _ 10 oA);have g:=hid (show rpB p (j:Int) ((n:Int)/4) ((n:Int)%4)=(p.IA[j] 10==((n:Int)%4)) by
     unfold rpB;rw[hr,af,ac a,aw oA];rfl)
    generalize p.IA[j] 10=y at H g;by_cases m:y=((n:Int)%4)
    ·have c:=hid (s.out (by rw[g.out,m];simp));subst m;go_wp2_with fail
     exact⟨⟨k+1,oA,by go_num,c,hid oS⟩,by simp[intOf];omega⟩
    ·have c:=hid (l.out (by rw[g.out];simpa using m));go_wp2_with fail
     go_ret
     exact⟨by rw[c.out];rfl,rfl⟩
   |false=>
    have c:=hid (l.out (by unfold rpB;rw[hr];rfl));go_wp2_with fail
    go_ret
    exact⟨by rw[c.out];rfl,rfl⟩
  ·obtain rfl:k=zs.length:=oA;have U:¬((zs.length:Int)<(zs.length:Int)):=oA;have A:=hid (show brB p n zs=false from vA fun k h=>o.out k h h);go_wp2_with fail
   go_ret
   exact⟨by rw[A.out];rfl,rfl⟩
def beB (p:PW) (k e:Int):Bool:=if k=4 then !(e==0)&& !isB p (e - 32768) 3 else if k=3 then !(e==0)&& !isB p (e - 32768) 2&& !isB p (e - 32768 - 16384) 2 else false
theorem pS (vb:Nat) (V:Nat->Value) (p:PW) (n m:Nat) (e:Int) (w:World) (h:ei w vb V p) (C:(n:Int)<=100000) (B:(n:Int)/16=(m:Int)) (hk:m<p.kinds.length) (k:0<=e∧e<=65535):
  Calls Tryz.prog 112 #[.pointer (some ⟨vb,0,none⟩),.int .i64 n,.int .i64 e] w fun r w'=>r=.returned (.bool (beB p p.kinds[m] e))∧w=w':=by
 have c1:=r11 1 h.r;obtain⟨q,b,off,cap,e1,t,u⟩:=h.v.kinds;have hl:(p.kinds.length:Int)<=1000:=by have:=h.f.kinds;omega
 have A:(m:Int)<(p.kinds.length:Int):=oA;obtain rfl:=t oA;have o:=u m hk;have g:=hid h;have x:=k.1;have y:=k.2;generalize p.kinds[m]=z at o ⊢;by_cases j:z=4
 ·subst j;by_cases c:e=0
  ·subst c;have a:=hid (show beB p 4 0=false from rfl);go_enter Tryz.func112,Tryz.ntmps112
   go_wp2_with fail
   go_ret
   exact⟨by rw[a.out];rfl,rfl⟩
  ·have a:=hid (show beB p 4 e= !isB p (e - 32768) 3 by unfold beB;rw[ah rfl,show (e==0)=false by simpa using c];rfl);have s:(e !=0)=true:=by simpa using c
   go_enter Tryz.func112,Tryz.ntmps112
   go_wp2_with fail
   refine (jd vb V p (e - 32768) 3 w g).mono ?_;rintro r w1 ⟨rfl,rfl⟩;generalize isB p (e - 32768) 3=l at a ⊢;go_wp2_with fail
   go_ret
   exact⟨by rw[a.out];rfl,rfl⟩
 ·by_cases i:z=3
  ·subst i;by_cases c:e=0
   ·subst c;have a:=hid (show beB p 3 0=false from rfl);go_enter Tryz.func112,Tryz.ntmps112
    go_wp2_with fail
    go_ret
    exact⟨by rw[a.out];rfl,rfl⟩
   ·have s:(e !=0)=true:=by simpa using c
    by_cases hi:isB p (e - 32768) 2=true
    ·have a:=hid (show beB p 3 e=false by unfold beB;rw[ae oA,ah rfl,hi];simp);have d:=hid hi;go_enter Tryz.func112,Tryz.ntmps112
     go_wp2_with fail
     refine (jd vb V p (e - 32768) 2 w g).mono ?_;rintro r w1 ⟨rfl,rfl⟩;rw[d.out];go_wp2_with fail
     go_ret
     exact⟨by rw[a.out];rfl,rfl⟩
    ·have d:=hid (show isB p (e - 32768) 2=false by simpa using hi);have a:=hid (show beB p 3 e= !isB p (e - 32768 - 16384) 2 by unfold beB;rw[ae oA,ah rfl,d.out,show (e==0)=false by simpa using c];rfl);go_enter Tryz.func112,Tryz.ntmps112
     go_wp2_with fail
     refine (jd vb V p (e - 32768) 2 w g).mono ?_;rintro r w1 ⟨rfl,rfl⟩;rw[d.out];go_wp2_with fail
     refine (jd vb V p (e - 32768 - 16384) 2 w g).mono ?_;rintro r w1 ⟨rfl,rfl⟩;generalize isB p (e - 32768 - 16384) 2=l at a ⊢;go_wp2_with fail
     go_ret
     exact⟨by rw[a.out];rfl,rfl⟩
  ·have a:=hid (show beB p z e=false by unfold beB;rw[ae j,ae i]);go_enter Tryz.func112,Tryz.ntmps112
   go_wp2_with fail
   go_ret
   exact⟨by rw[a.out];rfl,rfl⟩
theorem hU {ops:Array Oper} {rest:List Oper} {op:Oper} {a:Act} {w:World} {Q:Exit->Act->World->Prop} (f:Region.wanted op (yielded ops a.tmps)=true) (x:Operand) (e:op.op=.load 28 x)
  (b:Nat) (g:a.eval x=.pointer (some ⟨b,0,none⟩)) (V:Nat->Value) (d:w.rangeAt b 0 (cb V).toList)
  (h:wpList Tryz.prog ops Q rest (a.put op.dst (.agg (cb V))) w):wpList Tryz.prog ops Q (op::rest) a w:=
 BigFrame.wpList_want f fun _ c=>wp_load_mid 28 x e b 0 g (cb V).toList _ d Tryz.underlying28 rfl fq (c _ _ h)
