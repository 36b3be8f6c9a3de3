/- Qbg -/
import Derived.Maps.AppendAt
import Derived.Deep.RegionHeld3
import Derived.BigQuiet
import Derived.Test.YtaejnmmpddbbjaaGreatDoorQbf
set_option maxRecDepth 100000
set_option maxHeartbeats 16000000
namespace Go.Proofs.YtaejnmmpddbbjaaGreatDoor
namespace Mmu
open Go.RowKit Mem Bw Nums
-- from MmuClone.tpl
theorem fP {w:World} {B a e size n:Nat} {v:Value} {xs:List Value} (h:w.ownsRow B e size v n xs) (hB:a<=B):w.ownsRow a e size v n xs:=by
 refine⟨h.1,?_⟩;rcases h.2 with b|⟨g,cap,c,d,b,f⟩
 ·exact .inl b
 ·exact .inr ⟨g,cap,c,d,oA,f⟩
theorem eQ {P:Program} {ops:Array Oper} {o:Oper} {a:Act} {w:World} {K:Act->World->Prop} {Q:Exit->Act->World->Prop} {E:Prop}
  (D:o.guard=none) (s x:Operand) (t:TypeId) (G:o.op=Op.call {callee:=Callee.builtin Builtin.append,args:=#[s,x],argTypes:=#[t,t]})
  (B:Nat) (e:TypeId) (i:TypeInfo) (z:Value) (size bytes:Nat) (g:P.underlying t=some (.slice e)) (k:P.info? e=some i) (l:i.zero=some z) (p:i.size=size) (q:i.bytes=bytes) (r:z.cells.size=size) (y:0<size)
  (v:Value) (n:Nat) (xs:List Value) (J:a.eval s=v) (H:w.ownsRow B e size v n xs)
  (f:Addr) (m c:Nat) (b:List Value) (M:a.eval x=.slice (some f) m c) (F:b.length=m*size) (C:∀j u,b[j]? =some u->w.cell? (f.add j)=some u) (h:∀u∈b,u.oneCell'=true)
  (b1:n+m<=maxLen) (b2:(n+m)*bytes<=140737488355328) (hB:B<=w.heap.size)
  (A:∀d w',w'.ownsRow B e size d (n+m) (xs++b)->w.grownBy w' v.ownBlock->K (a.put o.dst d) w'):
  if Region.wanted o (yielded ops a.tmps)=true then Oper.wp P o a w K Q else E:=by
 have L:Region.wanted o (yielded ops a.tmps)=true:=by simp[Region.wanted,D]
 rw[af L];obtain⟨d,w',I,N,O,_⟩:=run_append_own (P:=P) w B t o.type e i z size bytes g k l p q r y v n xs H f m c b F C h b1 b2 hB;unfold Oper.wp;simp[execOp,G,resolve,invoke,builtin,J,M,I,Result.andThen];exact A d w' N O
def iZ (l:List Ent):List Ent:=l.drop (l.length - 4)
def kZ (l:List Ent) (e:Ent):List Ent:=iZ (fH l e.1 e.2.1++[e])
theorem jv (l:List Ent):(iZ l).length<=4:=by
 unfold iZ;rw[dD];omega
theorem vH (l:List Ent) (s p:Int) (h:p<0):fH l s (-1)=fH l s p:=by
 unfold fH
 congr 1
 funext e
 have:¬(0<=p):=oA;simp[jH,this]
def fh (B:Nat) (w:World) (v:Value) (l:List Ent):Prop:=∃q b off cap,v=.slice q l.length cap∧(0<l.length∧q=some ⟨b,off,none⟩)∧iy w b off l∧l.length<=100∧B<=b∧l.length<=cap
theorem fh.low {B a:Nat} {w:World} {v:Value} {l:List Ent} (h:fh B w v l) (hB:a<=B):fh a w v l:=by
 obtain⟨q,b,off,cap,c,d,e,f,g,i⟩:=h;exact⟨q,b,off,cap,c,d,e,f,aB hB g,i⟩
theorem rD {w:World} {B:Nat} {v:Value} {m:List Ent} (h:w.ownsRow B 56 4 v m.length (dE m)) (l:0<m.length):
  ∃g cap,v=.slice (some ⟨g,0,none⟩) m.length cap∧m.length<=cap∧B<=g∧∀k,k<=m.length->iy w g (k*4) (m.drop k):=by
 rcases h.2 with ⟨rfl,a⟩|⟨g,cap,i,rfl,a,n,d,_⟩
 ·omega
 ·refine⟨g,cap,rfl,d,a,fun k hk j e=>?_⟩;rw[dD] at e;have f:k+j<m.length:=oA;obtain⟨b,e1,e2,c⟩:=fL m (k+j) f;rw[show k*4+j*4=(k+j)*4 by omega,List.getElem_drop];rw[h.cellAt ((k+j)*4) oA,h.cellAt ((k+j)*4+1) oA,h.cellAt ((k+j)*4+2) oA,h.cellAt ((k+j)*4+3) oA];exact⟨b,e1,e2,c⟩
theorem nL {w:World} {B g cap:Nat} {m:List Ent} (b:0<m.length) (hB:B<=g) (a:(iZ m).length<=cap) (h:iy w g ((m.length - 4)*4) (m.drop (m.length - 4))):fh B w (.slice (some ⟨g,(m.length - 4)*4,none⟩) (m.length - (m.length - 4)) cap) (iZ m):=by
 refine⟨some ⟨g,(m.length - 4)*4,none⟩,g,(m.length - 4)*4,cap,?_,⟨by unfold iZ;rw[dD];omega,rfl⟩,h,aB (jv m) oD,hB,a⟩;unfold iZ;rw[dD]
theorem j6 {W w1:World} {a b c d:Value} {e:TypeId} (f:Below (W.alloc (.cells #[a,b,c,d] e)).heap.size (W.alloc (.cells #[a,b,c,d] e)) w1):∀(j:Nat) (x:Value),[a,b,c,d][j]? =some x->w1.cell? ((⟨W.heap.size,0,none⟩:Addr).add j)=some x:=by
 intro j x h;have:=gj W a b c d e j x h;rw[qt] at this ⊢;exact (f.cell (aj _ _ this)).trans this
def DI:Value->Nat
 | .slice _ n _=>n
 |_=>0
theorem so (v:Value) (l:List Ent) (a:Int) (e1:Int) (e2:Int) (d:Bool) (w:World) (Y:gB w v l):
  Calls Tryz.prog 83 #[v,.agg #[.int .i64 a,.int .i64 e1,.int .i64 e2,.bool d]] w fun r w'=>∃u,r=.returned u∧fh w.heap.size w' u (kZ l (a,e1,e2,d))∧Below w.heap.size w w':=by
 obtain⟨i0,hi,J,K,L⟩:=eH jX;have hl:l.length<=100:=by obtain⟨_,_,_,_,_,_,_,h⟩:=Y;exact h
 have H:=hid Y;have B:=hid (bal (ai w.heap.size w) (.cells #[.int .i64 a,.int .i64 e1,.int .i64 e2,.bool d] 56));have C:=hid (cD w #[.int .i64 a,.int .i64 e1,.int .i64 e2,.bool d] 56);have I:=hid (show (w.alloc (.cells #[.int .i64 a,.int .i64 e1,.int .i64 e2,.bool d] 56)).heap.size=w.heap.size+1 by simp);obtain⟨i,O⟩:∃W,W=w.alloc (.cells #[.int .i64 a,.int .i64 e1,.int .i64 e2,.bool d] 56):=⟨_,rfl⟩
 rw[<-O] at B C I;have HW:=hid O;have L0:=kJ l a e1;have S:(fH l a e1).length+1<=maxLen:=by unfold maxLen;omega
 have T:((fH l a e1).length+1)*32<=140737488355328:=oA;clear O;go_enter Tryz.func83,Tryz.ntmps83
 go_upto_region 1 with fail
 rw[<-HW.out];go_cut [5] (fun x wx=>∃m:List Ent,Hid (m=fH l a e1++[(a,e1,e2,d)])∧Hid (wx.ownsRow i.heap.size 56 4 x m.length (dE m))∧Hid (Below i.heap.size i wx))
 case first=>
  have f:=hid (aC i 1);have j:=hid (show ∀W,Below i.heap.size i W->W.cell? ⟨w.heap.size,0,none⟩=some (.int .i64 a)∧W.cell? ⟨w.heap.size,1,none⟩=some (.int .i64 e1)∧W.cell? ⟨w.heap.size,2,none⟩=some (.int .i64 e2)∧W.cell? ⟨w.heap.size,3,none⟩=some (.bool d) from fun W b=>by
   have y:w.heap.size<i.heap.size:=by have:=I.out;omega
   exact⟨(b.cell y).trans (C.out 0),(b.cell y).trans (C.out 1),(b.cell y).trans (C.out 2),(b.cell y).trans (C.out 3)⟩)
  go_region_held3 (fun W=>W.cell? ⟨w.heap.size,0,none⟩=some (.int .i64 a)∧W.cell? ⟨w.heap.size,1,none⟩=some (.int .i64 e1)∧W.cell? ⟨w.heap.size,2,none⟩=some (.int .i64 e2)∧W.cell? ⟨w.heap.size,3,none⟩=some (.bool d))
   (first
    |exact j _ A
    |exact j _ (bal e _)
    |exact j _ e
    |exact j _ (bal f _)
    |exact j _ f)
   (first
    |(refine eQ rfl (.tmp 11) (.tmp 13) 31 rfl i.heap.size 56 i0 (.agg #[.int .i64 0,.int .i64 0,.int .i64 0,.bool false]) 4 32 Tryz.underlying31 hi J K L rfl oD _ _ _ rfl n ⟨_,0,none⟩ 1 1 [.int .i64 a,.int .i64 e1,.int .i64 e2,.bool d] rfl rfl N (eJ _ _ _ _) S T e.size ?_;intro P Q t s;have A:=hid (e.grown s e.size (fun k hk=>(n.lt k hk).1));have G:=hid t;clear t s)
    |(refine eQ rfl (.tmp 11) (.tmp 13) 31 rfl i.heap.size 56 i0 (.agg #[.int .i64 0,.int .i64 0,.int .i64 0,.bool false]) 4 32 Tryz.underlying31 hi J K L rfl oD _ _ _ rfl (n.alloc _) ⟨_,0,none⟩ 1 1 [.int .i64 a,.int .i64 e1,.int .i64 e2,.bool d] rfl rfl (gj _ _ _ _ _ _) (eJ _ _ _ _) S T (bal e _).size ?_;intro P Q t s;have A:=hid ((bal e _).grown s (bal e _).size (fun k hk=>(n.lt k hk).1));have G:=hid t;clear t s)
    |(go_at_call 132;refine (ib v l a e1 _ (H.below (btr B f))).mono ?_;rintro r w1 ⟨u,rfl,q,b⟩;have e:=hid (btr f b);have n:=hid (fP q f.size);clear q b)
    |(go_at_call 132;refine (ib v l a e1 _ (H.below (btr B (bal f _)))).mono ?_;rintro r w1 ⟨u,rfl,q,b⟩;have e:=hid (btr (bal f _) b);have n:=hid (fP q (bal f _).size);have N:=hid (j6 b);clear q b))
  all_goals (go_wp2_with fail;go_meet;exact⟨_,hid rfl,hid (by rw[fG,av];exact G),A⟩)
 case rest=>
  obtain⟨m,F,M,z⟩:=hcut;have S1:=hid (show w.heap.size<wc.heap.size by have:=I.out;have:=z.size;omega);have D:=hid (fun o=>(z.cell (p:=⟨w.heap.size,o,none⟩) (by have:=I.out;simp only;omega)).trans (C.out o));have c1:=D.out 1;have R:=hid (btr B z)
  go_upto_if 17 with fail
  go_cut [5] (fun x wx=>∃m:List Ent,Hid (m=fH l a e1++[(a,e1,e2,d)])∧Hid (wx.ownsRow i.heap.size 56 4 x m.length (dE m))∧Hid (Below i.heap.size i wx))
  case first=>
   by_cases he:e1<0
   ·have N0:=kJ l a (-1);have U:(fH l a (-1)).length+1<=maxLen:=by unfold maxLen;omega
    have V:((fH l a (-1)).length+1)*32<=140737488355328:=oA;go_wp2_with fail
    have f:=hid (aC wc 1);have j:=hid (show ∀W,Below wc.heap.size wc W->W.cell? ⟨w.heap.size,0,none⟩=some (.int .i64 a)∧W.cell? ⟨w.heap.size,1,none⟩=some (.int .i64 e1)∧W.cell? ⟨w.heap.size,2,none⟩=some (.int .i64 e2)∧W.cell? ⟨w.heap.size,3,none⟩=some (.bool d) from fun W b=>by
     have y:w.heap.size<wc.heap.size:=by have:=S1.out;omega
     exact⟨(b.cell y).trans (D.out 0),(b.cell y).trans (D.out 1),(b.cell y).trans (D.out 2),(b.cell y).trans (D.out 3)⟩)
    go_region_held3 (fun W=>W.cell? ⟨w.heap.size,0,none⟩=some (.int .i64 a)∧W.cell? ⟨w.heap.size,1,none⟩=some (.int .i64 e1)∧W.cell? ⟨w.heap.size,2,none⟩=some (.int .i64 e2)∧W.cell? ⟨w.heap.size,3,none⟩=some (.bool d))
     (first
      |exact j _ A
      |exact j _ (bal e _)
      |exact j _ e
      |exact j _ (bal f _)
      |exact j _ f)
     (first
      |(refine eQ rfl (.tmp 21) (.tmp 23) 31 rfl wc.heap.size 56 i0 (.agg #[.int .i64 0,.int .i64 0,.int .i64 0,.bool false]) 4 32 Tryz.underlying31 hi J K L rfl oD _ _ _ rfl n ⟨_,0,none⟩ 1 1 [.int .i64 a,.int .i64 e1,.int .i64 e2,.bool d] rfl rfl N (eJ _ _ _ _) U V e.size ?_;intro P Q t s;have A:=hid (e.grown s e.size (fun k hk=>(n.lt k hk).1));have G:=hid t;clear t s)
      |(refine eQ rfl (.tmp 21) (.tmp 23) 31 rfl wc.heap.size 56 i0 (.agg #[.int .i64 0,.int .i64 0,.int .i64 0,.bool false]) 4 32 Tryz.underlying31 hi J K L rfl oD _ _ _ rfl (n.alloc _) ⟨_,0,none⟩ 1 1 [.int .i64 a,.int .i64 e1,.int .i64 e2,.bool d] rfl rfl (gj _ _ _ _ _ _) (eJ _ _ _ _) U V (bal e _).size ?_;intro P Q t s;have A:=hid ((bal e _).grown s (bal e _).size (fun k hk=>(n.lt k hk).1));have G:=hid t;clear t s)
      |(go_at_call 132;refine (ib v l a (-1) _ (H.below (btr R f))).mono ?_;rintro r w1 ⟨u,rfl,q,b⟩;have e:=hid (btr f b);have n:=hid (fP q f.size);clear q b)
      |(go_at_call 132;refine (ib v l a (-1) _ (H.below (btr R (bal f _)))).mono ?_;rintro r w1 ⟨u,rfl,q,b⟩;have e:=hid (btr (bal f _) b);have n:=hid (fP q (bal f _).size);have N:=hid (j6 b);clear q b))
    all_goals (go_wp2_with fail;go_meet;exact⟨fH l a (-1)++[(a,e1,e2,d)],hid (by rw[vH l a e1 he]),hid (by rw[fG,av];exact fP G z.size),hid (btr z A)⟩)
   ·go_wp2_with fail
    go_meet
    exact⟨_,F,M,z⟩
  case rest=>
   obtain⟨m,F,M,z⟩:=hcut;have X:0<m.length:=by rw[F.out,av];simp
   have af:m.length<=101:=by rw[F.out,av];simp;omega
   obtain⟨g,cap,rfl,ad,hg,hE⟩:=rD M X;have HR:=hid (show kZ l (a,e1,e2,d)=iZ m by rw[F.out];rfl);have Z:=hid (show ∀c,(iZ m).length<=c->fh w.heap.size wc (.slice (some ⟨g,(m.length - 4)*4,none⟩) (m.length - (m.length - 4)) c) (iZ m) from fun c hc=>nL X (aB B.size hg) hc (hE (m.length - 4) oA));have HF:=hid (btr B z);go_wp2_with fail
   go_loopw [5] (fun x wr=>∃k:Nat,k<=m.length - 4∧x=.slice (some ⟨g,k*4,none⟩) (m.length - k) (cap - k)∧Hid (wc=wr)) (fun x _=>DI x)
   case atStart=>exact⟨0,oA,oS,hid rfl⟩
   case round=>
    obtain⟨k,hk,rfl,aa⟩:=hrel;obtain rfl:=aa.out;by_cases ae:4<m.length - k
    ·have ab:4<((m.length - k:Nat):Int):=oA;have ac:m.length - k<=cap - k:=oA;have e1:k*4+4=(k+1)*4:=oA;have e2:m.length - k - 1=m.length - (k+1):=oA;have d:cap - k - 1=cap - (k+1):=oA;have E:=hid (show (Value.slice (some ⟨g,k*4+4,none⟩) (m.length - k - 1) (cap - k - 1))=Value.slice (some ⟨g,(k+1)*4,none⟩) (m.length - (k+1)) (cap - (k+1)) by rw[e1,e2,d]);clear e1 e2 d;go_wp2_with fail
     exact⟨⟨k+1,oA,E.out,hid trivial⟩,by simp only[DI];omega⟩
    ·obtain rfl:k=m.length - 4:=oA;have ab:¬4<((m.length - (m.length - 4):Nat):Int):=oA;go_wp2_with fail
     go_ret
     refine⟨_,rfl,?_,HF.out⟩;rw[HR.out];exact Z _ (by unfold iZ;rw[dD];omega)
def lF (zs:List Int) (l:List Ent) (s a:Int):Ent×List Ent×Int:=
 if (hD l s (a/16)).2=true then ((hD l s (a/16)).1,l,0)
 else if (ei zs s a).2.2=0 then ((s,a/16,(ei zs s a).1,(ei zs s a).2.1),kZ l (s,a/16,(ei zs s a).1,(ei zs s a).2.1),0)
 else ((0,0,0,false),[],(ei zs s a).2.2)
theorem lP (w:World):gB w (.slice none 0 0) []:=⟨none,0,0,0,rfl,fun e=>by simp at e,fun j a=>by simp at a,oS⟩
theorem jB {zs:List Int} {l:List Ent} {s a:Int} {e:Ent} (h:hD l s (a/16)=(e,true)):lF zs l s a=(e,l,0):=by
 unfold lF;rw[h,af rfl]
theorem oW {zs:List Int} {l:List Ent} {s a:Int} {e:Ent} {t k:Int} {b:Bool} (h:hD l s (a/16)=(e,false)) (c:ei zs s a=(t,b,k)) (hk:k≠0):lF zs l s a=((0,0,0,false),[],k):=by
 unfold lF;rw[h,ae Bool.false_ne_true,c,ae hk]
theorem j9 {zs:List Int} {l:List Ent} {s a:Int} {e:Ent} {t:Int} {b:Bool} (h:hD l s (a/16)=(e,false)) (c:ei zs s a=(t,b,0)):lF zs l s a=((s,a/16,t,b),kZ l (s,a/16,t,b),0):=by
 unfold lF;rw[h,ae Bool.false_ne_true,c,af rfl]
def i4 (z a:Int):Int:=wrap64 (wrap64 (z*16)+a%16)
def fC (zs:List Int) (l:List Ent) (s a:Int) (wr:Bool):Int×List Ent×Int:=
 if ¬inb zs.length s a then (0,[],2)
 else if (lF zs l s a).2.2≠0 then (0,[],(lF zs l s a).2.2)
 else if wr=true∧(lF zs l s a).1.2.2.2=false then (0,[],4)
 else (i4 (lF zs l s a).1.2.2.1 a,(lF zs l s a).2.1,0)
theorem mB {zs:List Int} {l:List Ent} {s a:Int} {wr:Bool} (h:¬inb zs.length s a):fC zs l s a wr=(0,[],2):=by
 unfold fC;rw[af h]
theorem qU {zs:List Int} {l m:List Ent} {s a k:Int} {wr:Bool} {e:Ent} (h:inb zs.length s a) (b:lF zs l s a=(e,m,k)) (hk:k≠0):fC zs l s a wr=(0,[],k):=by
 unfold fC;rw[ae (fun c=>c h),b,af hk]
theorem j4 {zs:List Int} {l m:List Ent} {s a x y z:Int} (h:inb zs.length s a) (b:lF zs l s a=((x,y,z,false),m,0)):fC zs l s a true=(0,[],4):=by
 unfold fC;rw[ae (fun c=>c h),b,ae (fun c=>c rfl),af ⟨rfl,rfl⟩]
theorem j0 {zs:List Int} {l m:List Ent} {s a x y z:Int} {wr b:Bool} (h:inb zs.length s a) (i:lF zs l s a=((x,y,z,b),m,0)) (g:wr=false∨b=true):fC zs l s a wr=(i4 z a,m,0):=by
 unfold fC;rw[ae (fun c=>c h),i,ae (fun c=>c rfl),ae];rintro⟨f,d⟩;simp only at d;rcases g with e|e
 ·rw[e] at f;cases f
 ·rw[e] at d;cases d
theorem vk {zs:List Int} {s a:Int} (h:inb zs.length s a):(ei zs s a).2.2=0∨(ei zs s a).2.2=9:=by
 unfold ei;rw[ae (fun c=>c h)];split
 ·exact .inr rfl
 ·split
  ·exact .inr rfl
  ·exact .inl rfl
theorem mC (q v:Value) (zs:List Int) (l:List Ent) (s a:Int) (wr:Bool) (w:World) (K:Go.Proofs.YtaejnmmpddbbjaaGreatDoor.Wd.nQ w q zs) (L:gB w v l):
  Calls Tryz.prog 46 #[q,v,.int .i64 s,.int .i64 a,.bool wr] w fun r w'=>∃u,r=.returned (.tuple #[.int .i64 (fC zs l s a wr).1,u,.int .i64 (fC zs l s a wr).2.2])∧((fC zs l s a wr).2.2=0->(u=v∧(fC zs l s a wr).2.1=l)∨fh w.heap.size w' u (fC zs l s a wr).2.1)∧Below w.heap.size w w':=by
 have B:=hid L;have E:=hid K;by_cases j:inb zs.length s a
 ·have e:=hid j;have a0:=j.2.2.2.2.1;have a1:=j.2.2.2.2.2;obtain⟨g,n⟩:∃g,ei zs s a=g:=⟨_,rfl⟩
  have o:=vk j;rw[n] at o;obtain⟨t,b,k⟩:=g;simp only at o;go_enter Tryz.func46,Tryz.ntmps46
  go_wp2_with fail
  refine (Go.Proofs.YtaejnmmpddbbjaaGreatDoor.Wd.kC q zs s a w E).mono ?_;rintro r w0 ⟨rfl,rfl⟩;rw[n];simp only;have M:(k==2)=false:=by rcases o with rfl|rfl<;>rfl
  go_wp2_with fail
  refine (tJ v l s (a/16) w B).mono ?_;rintro r w1 ⟨rfl,D⟩;have G:=hid D;obtain⟨f,m⟩:∃f,hD l s (a/16)=f:=⟨_,rfl⟩
  rw[m];obtain⟨⟨x,y,z,u⟩,ok⟩:=f;unfold iA;have d:=hid (bal G (.cells #[.int .i64 x,.int .i64 y,.int .i64 z,.bool u] 56))
  cases ok with
  |true=>
   have C:=hid (B.below d);have i:=jB (zs:=zs) m
   cases wr with
   |false=>
    have c:=hid (j0 (wr:=false) e i (Or.inl rfl));go_wp2_with fail
    refine aq (v:=.tuple #[.int .i64 (i4 z a),v,.int .i64 0]) (by simp[i4,results,Tryz.results46,go_sem]) rfl ⟨v,by rw[c.out],fun _=>.inl ⟨rfl,by rw[c.out]⟩,d.out⟩
   |true=>
    cases u with
    |false=>
     have c:=hid (j4 e i);go_wp2_with fail
     refine aq (v:=.tuple #[.int .i64 0,.slice none 0 0,.int .i64 4]) (by simp[results,Tryz.results46,go_sem]) rfl ⟨_,by rw[c.out],fun h=>(by rw[c.out] at h;cases h),d.out⟩
    |true=>
     have c:=hid (j0 (wr:=true) e i (Or.inr rfl));go_wp2_with fail
     refine aq (v:=.tuple #[.int .i64 (i4 z a),v,.int .i64 0]) (by simp[i4,results,Tryz.results46,go_sem]) rfl ⟨v,by rw[c.out],fun _=>.inl ⟨rfl,by rw[c.out]⟩,d.out⟩
  |false=>
   rcases o with rfl|rfl
   ·have i:=j9 m n;have C:=hid (B.below d);go_wp2_with fail
    generalize World.alloc _ _=I at d C ⊢;refine (so v l s (a/16) t b I C).mono ?_;rintro r N ⟨p,rfl,J,D⟩;have F:=hid (J.low d.size);have A:=hid (btr d D)
    cases wr with
    |false=>
     have c:=hid (j0 (wr:=false) e i (Or.inl rfl));go_wp2_with fail
     refine aq (v:=.tuple #[.int .i64 (i4 t a),p,.int .i64 0]) (by simp[i4,results,Tryz.results46,go_sem]) rfl ⟨p,by rw[c.out],fun _=>.inr (by rw[c.out];exact F),A.out⟩
    |true=>
     cases b with
     |false=>
      have c:=hid (j4 e i);go_wp2_with fail
      refine aq (v:=.tuple #[.int .i64 0,.slice none 0 0,.int .i64 4]) (by simp[results,Tryz.results46,go_sem]) rfl ⟨_,by rw[c.out],fun h=>(by rw[c.out] at h;cases h),A.out⟩
     |true=>
      have c:=hid (j0 (wr:=true) e i (Or.inr rfl));go_wp2_with fail
      refine aq (v:=.tuple #[.int .i64 (i4 t a),p,.int .i64 0]) (by simp[i4,results,Tryz.results46,go_sem]) rfl ⟨p,by rw[c.out],fun _=>.inr (by rw[c.out];exact F),A.out⟩
   ·have c:=hid (qU (wr:=wr) e (oW m n oD) oD);go_wp2_with fail
    refine aq (v:=.tuple #[.int .i64 0,.slice none 0 0,.int .i64 9]) (by simp[results,Tryz.results46,go_sem]) rfl ⟨_,by rw[c.out],fun h=>(by rw[c.out] at h;cases h),d.out⟩
 ·have c:=hid (mB (l:=l) (wr:=wr) j);have H:=hid (iu j);go_enter Tryz.func46,Tryz.ntmps46
  go_wp2_with fail
  refine (Go.Proofs.YtaejnmmpddbbjaaGreatDoor.Wd.kC q zs s a w E).mono ?_;rintro r w0 ⟨rfl,rfl⟩;rw[H.out];go_wp2_with fail
  refine aq (v:=.tuple #[.int .i64 0,.slice none 0 0,.int .i64 2]) (by simp[results,Tryz.results46,go_sem]) rfl ⟨_,by rw[c.out],fun h=>(by rw[c.out] at h;cases h),ai _ _⟩
end Mmu
namespace Wd
open Go.RowKit Mem Bw Nums Mmu
theorem nJ {p:PW} (i:Nat) (v:Int):(p.Eb.set i v).length=p.Eb.length:=au ..
theorem jM.set {p:PW} (h:jM p) {i:Nat} {v:Int} (hi:i<p.Eb.length) (c:0<=v∧v<=65535) (b:beB p (p.k (i/16)) v=false):jM {p with Eb:=p.Eb.set i v}:=by
 refine⟨fun x d=>?_,fun j a=>?_⟩
 ·rcases ba d with g|g
  ·exact h.w x g
  ·rw[g];exact c
 ·have a:j<p.Eb.length:=by rwa [nJ] at a
  show beB {p with Eb:=p.Eb.set i v} (p.k (j/16)) ((p.Eb.set i v).getD j 0)=false
  rw[dx hi];split
  ·rename_i e;rw[e];exact b
  ·exact h.e j a
theorem Lw.word {p:PW} (h:Lw p) {i:Nat} {v:Int} (hi:i<p.Eb.length) (n:0<=v∧v<=65535) (g:beB p (p.k (i/16)) v=false) (d:p.k (i/16)=3∨p.k (i/16)=4->p.Eb.getD i 0=0):Lw {p with Eb:=p.Eb.set i v}:=by
 obtain⟨r,q⟩:=h.m.keys;refine⟨⟨h.m.ks,h.m.ds,⟨r,q.to rfl rfl⟩,h.m.op,h.m.Eb.set hi n g,h.m.tk.same (h.m.tk.lf.of (e4:=nJ i v))⟩,fun l hl=>(h.tl l hl).ES fun e o=>pk h.m.Eb h.m.tk.lf (fun f a=>(jZ (p:={p with Eb:=p.Eb.set i v}) (hZ (p:=p) (by rw[a];decide))).trans (by show (p.k f==4)=true;rw[a];rfl)) (nJ i v) (fun j b c=>?_) o,h.tm⟩;show (p.Eb.set i v).getD j 0=_
 rw[dx hi,ae];intro e;rw[e] at b c;exact c (d b)
theorem Lv.word {p:PW} (h:Lv p) {i:Nat} {v:Int} (hi:i<p.Eb.length) (c:0<=v∧v<=65535) (b:beB p (p.k (i/16)) v=false) (a:p.k (i/16)=3∨p.k (i/16)=4->p.Eb.getD i 0=0):Sm p {p with Eb:=p.Eb.set i v}:=h.to (h.w.word hi c b a) rfl rfl rfl
theorem Lw.Fw {p:PW} (h:Lw p) {i:Nat} (hi:i<p.Eb.length):Lw (fwP {p with Eb:=p.Eb.set i 0} 0 (-1)):=by
 obtain⟨r,d⟩:=h.m.keys;have m:Md (fun _=>False) {p with Eb:=p.Eb.set i 0}:=⟨h.m.ks,h.m.ds,⟨r,d.to rfl rfl⟩,h.m.op,h.m.Eb.set hi oD (fF.2 ⟨fun _=>.inl rfl,fun _=>.inl rfl⟩),h.m.tk.same (h.m.tk.lf.of (e4:=nJ i 0))⟩;refine⟨m.D9 oS,fun l hl=>?_,h.tm⟩;obtain⟨l0,b,rfl⟩:=List.mem_map.1 (show l∈p.D9.map _ from hl);refine (h.tl l0 b).filter fun e c a=>?_;have t:=(h.tl l0 b).t e c;unfold eG at t ⊢;unfold kpE at a;simp only[al,bh,aR] at t a ⊢;rw[show e.2.1*16=16*e.2.1 by omega];exact⟨⟨t.1.1,t.1.2⟩,a.1⟩
theorem Lv.Fw {p:PW} (h:Lv p) {i:Nat} (hi:i<p.Eb.length):Sm p (fwP {p with Eb:=p.Eb.set i 0} 0 (-1)):=h.to (h.w.Fw hi) rfl rfl (by show (p.D9.map _).length=_;simp)
theorem Lw.has {p:PW} (h:Lw p) {t:Nat} (a:p.k t=6) {k:Nat} {v:Int} (hk:k≠9∧k≠10∧k≠14∧k≠17∧k≠18) (b:fOk p k v=true):Lw (p.task t k v):=h.tk (h.m.tk.Fe a b hk.2.2.2.1 (.inr ⟨hk.1,hk.2.1,hk.2.2.1,hk.2.2.2.2⟩) (fun e=>absurd e hk.1)) ((db p).task _ _ _)
theorem Lv.has {p:PW} (h:Lv p) {t:Nat} (a:p.k t=6) {k:Nat} {v:Int} (hk:k≠9∧k≠10∧k≠14∧k≠17∧k≠18) (b:fOk p k v=true):Sm p (p.task t k v):=h.rs (h.w.has a hk b) ((db p).task _ _ _)
theorem Lv.EX {p:PW} (h:Lv p) {t:Nat} (a:p.k t=6) {k:Nat} {v:Int} (hk:k<=8) (b:0<=v∧v<=65535):Sm p (p.task t k v):=h.rs (h.w.EX a (.inl hk) b) ((db p).task _ _ _)
theorem Lv.Fx {p:PW} (h:Lv p) {c:Nat} {l:List Ent} (hl:TlO p l):Sm p {p with D9:=p.D9.set c l}:=by
 refine h.to ⟨h.w.m.D9 oS,fun m b=>?_,h.w.tm⟩ rfl rfl oS;have k:∀m,TlO p m->TlO {p with D9:=p.D9.set c l} m:=fun m g=>g.ES fun e a=>(iP (p:=p) (q:={p with D9:=p.D9.set c l}) rfl rfl e).trans a;rcases ba b with g|g
 ·exact k m (h.w.tl m g)
 ·rw[g];exact k l hl
theorem Lw.tick {p:PW} (h:Lw p):Lw {p with time:=p.time+1}:=by
 obtain⟨r,b⟩:=h.m.keys;exact⟨⟨h.m.ks,h.m.ds,⟨r,b.to rfl rfl⟩,h.m.op,⟨h.m.Eb.w,h.m.Eb.e⟩,h.m.tk.same h.m.tk.lf.of⟩,fun l hl=>(h.tl l hl).ES fun e a=>(iP (p:=p) (q:={p with time:=p.time+1}) rfl rfl e).trans a,by show 0<=p.time+1;have:=h.tm;omega⟩
theorem vg {p:PW} (h:Lw p) {e:Ent} (l:eG p e=true):∃f:Nat,e.2.2.1=f∧p.k f=2:=by
 unfold eG at l;simp only[al,bh,aR] at l;obtain⟨⟨w,D⟩,⟨c,d⟩,_⟩:=l;obtain⟨s,q,B,r⟩:=eU w;rw[q] at c d;generalize F:e.2.1*16=a at*;have lf:=h.m.tk.lf;unfold ei at c d;by_cases c1:¬inb p.Eb.length s a
 ·rw[af c1] at c;cases c
 rw[ae c1] at c d;by_cases c2:¬isE (e1 p.Eb s a) (n16 p.Eb)
 ·rw[af c2] at c;cases c
 rw[ae c2] at c d;by_cases i:¬isE (e2 p.Eb (e1 p.Eb s a%1024) a) (n16 p.Eb)
 ·rw[af i] at c;cases c
 rw[ae i] at d;have E:0<=a∧a/256<=15:=oA;have o:¬isE 0 (n16 p.Eb):=by unfold isE;omega
 have x:((s:Int)*16+a/256).toNat<p.Eb.length:=by have:=lf.Eb;omega
 have b1:=(fF.1 (h.m.Eb.e _ x)).1 (by rw[show ((s:Int)*16+a/256).toNat/16=s by omega];exact r);obtain⟨t,n,C,v⟩:=eU (b1.resolve_left fun y=>c2 (by unfold e1;rw[y];exact o));have n:e1 p.Eb s a - 32768=t:=n;have k2:=lf.k2;have A:e1 p.Eb s a%1024=t:=oA;rw[A] at d i;have z:((t:Int)*16+a/16%16).toNat<p.Eb.length:=by have:=lf.Eb;omega
 have b2:=(fF.1 (h.m.Eb.e _ z)).2 (by rw[show ((t:Int)*16+a/16%16).toNat/16=t by omega];exact v);have d:=d;rcases b2.resolve_left fun y=>i (by unfold e2;rw[y];exact o) with b|b
 ·obtain⟨f,g,u,j⟩:=eU b;have g:e2 p.Eb t a - 32768=f:=g;exact⟨f,oA,j⟩
 ·obtain⟨f,g,u,j⟩:=eU b;have g:e2 p.Eb t a - 32768 - 16384=f:=g;exact⟨f,oA,j⟩
theorem yg {z:Int} (a:0<=z) (b:z<=100000):wrap64 z=z:=by unfold wrap64;omega
theorem vj (zs:List Int) (s a:Int) (e:0<=a∧a<4096):ei zs s (a/16*16)=ei zs s a:=by
 have b:e1 zs s (a/16*16)=e1 zs s a:=by unfold e1;rw[show a/16*16/256=a/256 by omega]
 have d:∀t,e2 zs t (a/16*16)=e2 zs t a:=fun t=>by unfold e2;rw[show a/16*16/16%16=a/16%16 by omega]
 have hi:inb zs.length s (a/16*16)↔inb zs.length s a:=by unfold inb;omega
 unfold ei;rw[b,d];by_cases c:inb zs.length s a
 ·rw[ae (not_not_intro (hi.2 c)),ae (not_not_intro c)]
 ·rw[af (fun y=>c (hi.1 y)),af c]
theorem TlO.fill {p:PW} {l:List Ent} (h:TlO p l) {e:Ent} (a:eG p e=true):TlO p (kZ l e):=by
 have f:∀x∈kZ l e,x=e∨x∈fH l e.1 e.2.1:=fun x b=>by
  have:=List.mem_of_mem_drop b;rw[dt,bU] at this;exact this.symm
 refine⟨jv _,fun x b=>?_,?_⟩
 ·rcases f x b with g|g
  ·rw[g];exact a
  ·exact h.t x (List.mem_filter.1 g).1
 ·unfold kZ iZ;refine List.Pairwise.drop ?_;rw[List.pairwise_append];refine⟨h.d.filter _,List.pairwise_singleton _ _,fun x b y c=>?_⟩;rw[bU] at c;rw[c];have:=(List.mem_filter.1 b).2;obtain⟨_,i,_⟩:=(show isB p e.1 4=true∧(0<=e.2.1∧e.2.1<=255)∧True from by
   unfold eG at a;simp only[al,aR] at a;exact⟨a.1.1,a.1.2,trivial⟩)
  unfold jH at this;unfold pg;have j:=i.1;simp[j] at this ⊢;omega
theorem uh {p:PW} (h:Lw p) {l:List Ent} (hl:TlO p l) {s a:Int} {wr:Bool} (j:fB p s 4=true) (c:(fC p.Eb l s a wr).2.2=0):
  TlO p (fC p.Eb l s a wr).2.1∧∃f:Nat,p.k f=2∧(fC p.Eb l s a wr).1=f*16+a%16∧0<=a:=by
 unfold fC at c ⊢;by_cases c1:¬inb p.Eb.length s a
 ·rw[af c1] at c;cases c
 rw[ae c1] at c ⊢;have c1:=Decidable.not_not.1 c1;have o:0<=a∧a<4096:=⟨c1.2.2.2.2.1,c1.2.2.2.2.2⟩;by_cases c2:(lF p.Eb l s a).2.2≠0
 ·rw[af c2] at c;exact absurd c c2
 rw[ae c2] at c ⊢;have c2:=Decidable.not_not.1 c2;by_cases n:wr=true∧(lF p.Eb l s a).1.2.2.2=false
 ·rw[af n] at c;cases c
 rw[ae n];have key:TlO p (lF p.Eb l s a).2.1∧eG p (lF p.Eb l s a).1=true:=by
  obtain⟨f,d⟩:∃f,hD l s (a/16)=f:=⟨_,rfl⟩
  obtain⟨e,ok⟩:=f
  cases ok with
  |true=>
   rw[jB d];refine⟨hl,hl.t e ?_⟩;unfold hD at d;split at d
   ·rename_i hlt;injection d with g _
    rw[<-g];exact aw hlt
   ·injection d with _ g
    cases g
  |false=>
   obtain⟨g,i⟩:∃g,ei p.Eb s a=g:=⟨_,rfl⟩
   obtain⟨t,b,k⟩:=g;by_cases hk:k=0
   ·subst hk;rw[j9 d i];have q:eG p (s,a/16,t,b)=true:=by
     unfold eG;have v:isB p s 4=true:=by
      unfold fB at j;rw[bT] at j;exact j.resolve_left fun e=>by have:=eq_of_beq e;have:=c1.2.2.1;omega
     show (isB p s 4&&decide (0<=a/16∧a/16<=255)&&((ei p.Eb s (a/16*16)).2.2==0&&(ei p.Eb s (a/16*16)).1==t&&(ei p.Eb s (a/16*16)).2.1==b))=true
     rw[vj _ _ _ o,i,v,aD oA];simp
    exact⟨hl.fill q,q⟩
   ·rw[oW d i hk] at c2;exact absurd c2 hk
 refine⟨key.1,?_⟩;obtain⟨f,r,u⟩:=vg h key.2;have w:=hZ (p:=p) (f:=f) oA;have k2:=h.m.tk.lf.k2;refine⟨f,u,?_,o.1⟩;show i4 (lF p.Eb l s a).1.2.2.1 a=_
 rw[r];unfold i4;rw[yg (z:=(f:Int)*16) oA oA,yg oA oA]
