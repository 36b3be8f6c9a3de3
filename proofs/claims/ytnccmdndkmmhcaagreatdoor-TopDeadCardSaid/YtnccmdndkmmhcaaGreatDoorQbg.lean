/- Qbg -/
import Derived.Maps.AppendAt
import Derived.Deep.RegionHeld3
import Derived.BigQuiet
import Derived.BigGuard
import Derived.BigCall
import Derived.Test.YtnccmdndkmmhcaaGreatDoorQbf
set_option maxRecDepth 100000
set_option maxHeartbeats 16000000
namespace Go.Proofs.YtnccmdndkmmhcaaGreatDoor
namespace Mmu
open Go.RowKit Mem Bw Nums
-- from MmuClone.tpl
theorem jl {w:World} {B a e size n:Nat} {v:Value} {xs:List Value} (h:w.ownsRow B e size v n xs) (hB:a<=B):w.ownsRow a e size v n xs:=by
 refine⟨h.1,?_⟩;rcases h.2 with b|⟨g,cap,c,d,b,f⟩
 ·exact .inl b
 ·exact .inr ⟨g,cap,c,d,oA,f⟩
theorem gw {P:Program} {ops:Array Oper} {o:Oper} {a:Act} {w:World} {K:Act->World->Prop} {Q:Exit->Act->World->Prop} {E:Prop}
  (D:o.guard=none) (s x:Operand) (t:TypeId) (G:o.op=Op.call {callee:=Callee.builtin Builtin.append,args:=#[s,x],argTypes:=#[t,t]})
  (B:Nat) (e:TypeId) (i:TypeInfo) (z:Value) (size bytes:Nat) (g:P.underlying t=some (.slice e)) (k:P.info? e=some i) (l:i.zero=some z) (p:i.size=size) (q:i.bytes=bytes) (r:z.cells.size=size) (y:0<size)
  (v:Value) (n:Nat) (xs:List Value) (J:a.eval s=v) (H:w.ownsRow B e size v n xs)
  (f:Addr) (m c:Nat) (b:List Value) (M:a.eval x=.slice (some f) m c) (F:b.length=m*size) (C:∀j u,b[j]? =some u->w.cell? (f.add j)=some u) (h:∀u∈b,u.oneCell'=true)
  (b1:n+m<=maxLen) (b2:(n+m)*bytes<=140737488355328) (hB:B<=w.heap.size)
  (A:∀d w',w'.ownsRow B e size d (n+m) (xs++b)->w.grownBy w' v.ownBlock->K (a.put o.dst d) w'):
  if Region.wanted o (yielded ops a.tmps)=true then Oper.wp P o a w K Q else E:=by
 have L:Region.wanted o (yielded ops a.tmps)=true:=by simp[Region.wanted,D]
 rw[ag L];obtain⟨d,w',I,N,O,_⟩:=run_append_own (P:=P) w B t o.type e i z size bytes g k l p q r y v n xs H f m c b F C h b1 b2 hB;unfold Oper.wp;simp[execOp,G,resolve,invoke,builtin,J,M,I,Result.andThen];exact A d w' N O
def lN (l:List Ent):List Ent:=l.drop (l.length - 4)
def sg (l:List Ent) (e:Ent):List Ent:=lN (ik l e.1 e.2.1++[e])
theorem qC (l:List Ent):(lN l).length<=4:=by
 unfold lN;rw[eJ];omega
theorem zj (l:List Ent) (s p:Int) (h:p<0):ik l s (-1)=ik l s p:=by
 unfold ik
 congr 1
 funext e
 have:¬(0<=p):=oA;simp[lQ,this]
def iC (B:Nat) (w:World) (v:Value) (l:List Ent):Prop:=∃q b off cap,v=.slice q l.length cap∧(0<l.length∧q=some ⟨b,off,none⟩)∧gz w b off l∧l.length<=100∧B<=b∧l.length<=cap∧∀o,w.frozen? ⟨b,o,none⟩=false
theorem iC.low {B a:Nat} {w:World} {v:Value} {l:List Ent} (h:iC B w v l) (hB:a<=B):iC a w v l:=by
 obtain⟨q,b,off,cap,c,d,e,f,g,i⟩:=h;exact⟨q,b,off,cap,c,d,e,f,aD hB g,i⟩
theorem Aj {w:World} {B:Nat} {v:Value} {m:List Ent} (h:w.ownsRow B 40 4 v m.length (fq m)) (h0:0<m.length):
  ∃g cap,v=.slice (some ⟨g,0,none⟩) m.length cap∧m.length<=cap∧B<=g∧(∀k,k<=m.length->gz w g (k*4) (m.drop k))∧∀o,w.frozen? ⟨g,o,none⟩=false:=by
 rcases h.2 with ⟨rfl,a⟩|⟨g,cap,i,rfl,a,l,d,_⟩
 ·omega
 ·refine⟨g,cap,rfl,d,a,fun k hk j e=>?_,h.frozenAt⟩;rw[eJ] at e;have f:k+j<m.length:=oA;obtain⟨b,e1,e2,c⟩:=ki m (k+j) f;rw[show k*4+j*4=(k+j)*4 by omega,List.getElem_drop];rw[h.cellAt ((k+j)*4) oA,h.cellAt ((k+j)*4+1) oA,h.cellAt ((k+j)*4+2) oA,h.cellAt ((k+j)*4+3) oA];exact⟨b,e1,e2,c⟩
theorem AD {w:World} {B g cap:Nat} {m:List Ent} (h0:0<m.length) (hB:B<=g) (a:(lN m).length<=cap) (h:gz w g ((m.length - 4)*4) (m.drop (m.length - 4))) (b:∀o,w.frozen? ⟨g,o,none⟩=false):iC B w (.slice (some ⟨g,(m.length - 4)*4,none⟩) (m.length - (m.length - 4)) cap) (lN m):=by
 refine⟨some ⟨g,(m.length - 4)*4,none⟩,g,(m.length - 4)*4,cap,?_,⟨by unfold lN;rw[eJ];omega,rfl⟩,h,aD (qC m) oD,hB,a,b⟩;unfold lN;rw[eJ]
theorem od {W w1:World} {a b c d:Value} {e:TypeId} (f:Below (W.alloc (.cells #[a,b,c,d] e)).heap.size (W.alloc (.cells #[a,b,c,d] e)) w1):∀(j:Nat) (x:Value),[a,b,c,d][j]? =some x->w1.cell? ((⟨W.heap.size,0,none⟩:Addr).add j)=some x:=by
 intro j x h;have:=hV W a b c d e j x h;rw[te] at this ⊢;exact (f.cell (aj _ _ this)).trans this
def Hy:Value->Nat
 | .slice _ n _=>n
 |_=>0
theorem va (v:Value) (l:List Ent) (a:Int) (e1:Int) (e2:Int) (d:Bool) (w:World) (hv:i9 w v l):
  Calls Tryz.prog 179 #[v,.agg #[.int .i64 a,.int .i64 e1,.int .i64 e2,.bool d]] w fun r w'=>∃u,r=.returned u∧iC w.heap.size w' u (sg l (a,e1,e2,d))∧Below w.heap.size w w':=by
 obtain⟨i0,hi,J,K,L⟩:=fm mE;have hl:l.length<=100:=by obtain⟨_,_,_,_,_,_,_,h⟩:=hv;exact h
 have H:=hid hv;have B:=hid (bal (af w.heap.size w) (.cells #[.int .i64 a,.int .i64 e1,.int .i64 e2,.bool d] 40));have C:=hid (cq w #[.int .i64 a,.int .i64 e1,.int .i64 e2,.bool d] 40);have I:=hid (show (w.alloc (.cells #[.int .i64 a,.int .i64 e1,.int .i64 e2,.bool d] 40)).heap.size=w.heap.size+1 by simp);obtain⟨i,O⟩:∃W,W=w.alloc (.cells #[.int .i64 a,.int .i64 e1,.int .i64 e2,.bool d] 40):=⟨_,rfl⟩
 rw[<-O] at B C I;have HW:=hid O;have L0:=oP l a e1;have S:(ik l a e1).length+1<=maxLen:=by unfold maxLen;omega
 have T:((ik l a e1).length+1)*32<=140737488355328:=oA;clear O;go_enter Tryz.func179,Tryz.ntmps179
 go_upto_region 1 with fail
 rw[<-HW.out];go_cut [5] (fun x wx=>∃m:List Ent,Hid (m=ik l a e1++[(a,e1,e2,d)])∧Hid (wx.ownsRow i.heap.size 40 4 x m.length (fq m))∧Hid (Below i.heap.size i wx))
 case first=>
  have f:=hid (aB i 1);have j:=hid (show ∀W,Below i.heap.size i W->W.cell? ⟨w.heap.size,0,none⟩=some (.int .i64 a)∧W.cell? ⟨w.heap.size,1,none⟩=some (.int .i64 e1)∧W.cell? ⟨w.heap.size,2,none⟩=some (.int .i64 e2)∧W.cell? ⟨w.heap.size,3,none⟩=some (.bool d) from fun W b=>by
   have y:w.heap.size<i.heap.size:=by have:=I.out;omega
   exact⟨(b.cell y).trans (C.out 0),(b.cell y).trans (C.out 1),(b.cell y).trans (C.out 2),(b.cell y).trans (C.out 3)⟩)
  go_region_held3 (fun W=>W.cell? ⟨w.heap.size,0,none⟩=some (.int .i64 a)∧W.cell? ⟨w.heap.size,1,none⟩=some (.int .i64 e1)∧W.cell? ⟨w.heap.size,2,none⟩=some (.int .i64 e2)∧W.cell? ⟨w.heap.size,3,none⟩=some (.bool d))
   (first
    |exact j _ A
    |exact j _ (bal e _)
    |exact j _ e
    |exact j _ (bal f _)
    |exact j _ f)
   (first
    |(refine gw rfl (.tmp 11) (.tmp 13) 38 rfl i.heap.size 40 i0 (.agg #[.int .i64 0,.int .i64 0,.int .i64 0,.bool false]) 4 32 Tryz.underlying38 hi J K L rfl oD _ _ _ rfl n ⟨_,0,none⟩ 1 1 [.int .i64 a,.int .i64 e1,.int .i64 e2,.bool d] rfl rfl N (fR _ _ _ _) S T e.size ?_;intro P Q t s;have A:=hid (e.grown s e.size (fun k hk=>(n.lt k hk).1));have G:=hid t;clear t s)
    |(refine gw rfl (.tmp 11) (.tmp 13) 38 rfl i.heap.size 40 i0 (.agg #[.int .i64 0,.int .i64 0,.int .i64 0,.bool false]) 4 32 Tryz.underlying38 hi J K L rfl oD _ _ _ rfl (n.alloc _) ⟨_,0,none⟩ 1 1 [.int .i64 a,.int .i64 e1,.int .i64 e2,.bool d] rfl rfl (hV _ _ _ _ _ _) (fR _ _ _ _) S T (bal e _).size ?_;intro P Q t s;have A:=hid ((bal e _).grown s (bal e _).size (fun k hk=>(n.lt k hk).1));have G:=hid t;clear t s)
    |(go_at_call 228;refine (iO v l a e1 _ (H.below (btr B f))).mono ?_;rintro r w1 ⟨u,rfl,q,b⟩;have e:=hid (btr f b);have n:=hid (jl q f.size);clear q b)
    |(go_at_call 228;refine (iO v l a e1 _ (H.below (btr B (bal f _)))).mono ?_;rintro r w1 ⟨u,rfl,q,b⟩;have e:=hid (btr (bal f _) b);have n:=hid (jl q (bal f _).size);have N:=hid (od b);clear q b))
  all_goals (go_wp2_with fail;go_meet;exact⟨_,hid rfl,hid (by rw[gC,ax];exact G),A⟩)
 case rest=>
  obtain⟨m,F,M,z⟩:=hcut;have S1:=hid (show w.heap.size<wc.heap.size by have:=I.out;have:=z.size;omega);have D:=hid (fun o=>(z.cell (p:=⟨w.heap.size,o,none⟩) (by have:=I.out;simp only;omega)).trans (C.out o));have c1:=D.out 1;have R:=hid (btr B z)
  go_upto_if 17 with fail
  go_cut [5] (fun x wx=>∃m:List Ent,Hid (m=ik l a e1++[(a,e1,e2,d)])∧Hid (wx.ownsRow i.heap.size 40 4 x m.length (fq m))∧Hid (Below i.heap.size i wx))
  case first=>
   by_cases he:e1<0
   ·have N0:=oP l a (-1);have U:(ik l a (-1)).length+1<=maxLen:=by unfold maxLen;omega
    have V:((ik l a (-1)).length+1)*32<=140737488355328:=oA;go_wp2_with fail
    have f:=hid (aB wc 1);have j:=hid (show ∀W,Below wc.heap.size wc W->W.cell? ⟨w.heap.size,0,none⟩=some (.int .i64 a)∧W.cell? ⟨w.heap.size,1,none⟩=some (.int .i64 e1)∧W.cell? ⟨w.heap.size,2,none⟩=some (.int .i64 e2)∧W.cell? ⟨w.heap.size,3,none⟩=some (.bool d) from fun W b=>by
     have y:w.heap.size<wc.heap.size:=by have:=S1.out;omega
     exact⟨(b.cell y).trans (D.out 0),(b.cell y).trans (D.out 1),(b.cell y).trans (D.out 2),(b.cell y).trans (D.out 3)⟩)
    go_region_held3 (fun W=>W.cell? ⟨w.heap.size,0,none⟩=some (.int .i64 a)∧W.cell? ⟨w.heap.size,1,none⟩=some (.int .i64 e1)∧W.cell? ⟨w.heap.size,2,none⟩=some (.int .i64 e2)∧W.cell? ⟨w.heap.size,3,none⟩=some (.bool d))
     (first
      |exact j _ A
      |exact j _ (bal e _)
      |exact j _ e
      |exact j _ (bal f _)
      |exact j _ f)
     (first
      |(refine gw rfl (.tmp 21) (.tmp 23) 38 rfl wc.heap.size 40 i0 (.agg #[.int .i64 0,.int .i64 0,.int .i64 0,.bool false]) 4 32 Tryz.underlying38 hi J K L rfl oD _ _ _ rfl n ⟨_,0,none⟩ 1 1 [.int .i64 a,.int .i64 e1,.int .i64 e2,.bool d] rfl rfl N (fR _ _ _ _) U V e.size ?_;intro P Q t s;have A:=hid (e.grown s e.size (fun k hk=>(n.lt k hk).1));have G:=hid t;clear t s)
      |(refine gw rfl (.tmp 21) (.tmp 23) 38 rfl wc.heap.size 40 i0 (.agg #[.int .i64 0,.int .i64 0,.int .i64 0,.bool false]) 4 32 Tryz.underlying38 hi J K L rfl oD _ _ _ rfl (n.alloc _) ⟨_,0,none⟩ 1 1 [.int .i64 a,.int .i64 e1,.int .i64 e2,.bool d] rfl rfl (hV _ _ _ _ _ _) (fR _ _ _ _) U V (bal e _).size ?_;intro P Q t s;have A:=hid ((bal e _).grown s (bal e _).size (fun k hk=>(n.lt k hk).1));have G:=hid t;clear t s)
      |(go_at_call 228;refine (iO v l a (-1) _ (H.below (btr R f))).mono ?_;rintro r w1 ⟨u,rfl,q,b⟩;have e:=hid (btr f b);have n:=hid (jl q f.size);clear q b)
      |(go_at_call 228;refine (iO v l a (-1) _ (H.below (btr R (bal f _)))).mono ?_;rintro r w1 ⟨u,rfl,q,b⟩;have e:=hid (btr (bal f _) b);have n:=hid (jl q (bal f _).size);have N:=hid (od b);clear q b))
    all_goals (go_wp2_with fail;go_meet;exact⟨ik l a (-1)++[(a,e1,e2,d)],hid (by rw[zj l a e1 he]),hid (by rw[gC,ax];exact jl G z.size),hid (btr z A)⟩)
   ·go_wp2_with fail
    go_meet
    exact⟨_,F,M,z⟩
  case rest=>
   obtain⟨m,F,M,z⟩:=hcut;have X:0<m.length:=by rw[F.out,ax];simp
   have ag:m.length<=101:=by rw[F.out,ax];simp;omega
   obtain⟨g,cap,rfl,ad,hg,hE,hz⟩:=Aj M X;have HR:=hid (show sg l (a,e1,e2,d)=lN m by rw[F.out];rfl);have Y:=hid (show ∀c,(lN m).length<=c->iC w.heap.size wc (.slice (some ⟨g,(m.length - 4)*4,none⟩) (m.length - (m.length - 4)) c) (lN m) from fun c hc=>AD X (aD B.size hg) hc (hE (m.length - 4) oA) hz);have Z:=hid (btr B z);go_wp2_with fail
   go_loopw [5] (fun x wr=>∃k:Nat,k<=m.length - 4∧x=.slice (some ⟨g,k*4,none⟩) (m.length - k) (cap - k)∧Hid (wc=wr)) (fun x _=>Hy x)
   case atStart=>exact⟨0,oA,oS,hid rfl⟩
   case round=>
    obtain⟨k,hk,rfl,aa⟩:=hrel;obtain rfl:=aa.out;by_cases ae:4<m.length - k
    ·have ab:4<((m.length - k:Nat):Int):=oA;have ac:m.length - k<=cap - k:=oA;have e1:k*4+4=(k+1)*4:=oA;have e2:m.length - k - 1=m.length - (k+1):=oA;have d:cap - k - 1=cap - (k+1):=oA;have E:=hid (show (Value.slice (some ⟨g,k*4+4,none⟩) (m.length - k - 1) (cap - k - 1))=Value.slice (some ⟨g,(k+1)*4,none⟩) (m.length - (k+1)) (cap - (k+1)) by rw[e1,e2,d]);clear e1 e2 d;go_wp2_with fail
     exact⟨⟨k+1,oA,E.out,hid trivial⟩,by simp only[Hy];omega⟩
    ·obtain rfl:k=m.length - 4:=oA;have ab:¬4<((m.length - (m.length - 4):Nat):Int):=oA;go_wp2_with fail
     go_ret
     refine⟨_,rfl,?_,Z.out⟩;rw[HR.out];exact Y _ (by unfold lN;rw[eJ];omega)
def pE (zs:List Int) (l:List Ent) (s a:Int):Ent×List Ent×Int:=
 if (ja l s (a/16)).2=true then ((ja l s (a/16)).1,l,0)
 else if (eu zs s a).2.2=0 then ((s,a/16,(eu zs s a).1,(eu zs s a).2.1),sg l (s,a/16,(eu zs s a).1,(eu zs s a).2.1),0)
 else ((0,0,0,false),[],(eu zs s a).2.2)
theorem qT {zs:List Int} {l:List Ent} {s a:Int} {e:Ent} (h:ja l s (a/16)=(e,true)):pE zs l s a=(e,l,0):=by
 unfold pE;rw[h,ag rfl]
theorem Bd {zs:List Int} {l:List Ent} {s a:Int} {e:Ent} {t k:Int} {b:Bool} (h:ja l s (a/16)=(e,false)) (c:eu zs s a=(t,b,k)) (hk:k≠0):pE zs l s a=((0,0,0,false),[],k):=by
 unfold pE;rw[h,ae Bool.false_ne_true,c,ae hk]
theorem yf {zs:List Int} {l:List Ent} {s a:Int} {e:Ent} {t:Int} {b:Bool} (h:ja l s (a/16)=(e,false)) (c:eu zs s a=(t,b,0)):pE zs l s a=((s,a/16,t,b),sg l (s,a/16,t,b),0):=by
 unfold pE;rw[h,ae Bool.false_ne_true,c,ag rfl]
def lO (z a:Int):Int:=wrap64 (wrap64 (z*16)+a%16)
def iR (zs:List Int) (l:List Ent) (s a:Int) (wr:Bool):Int×List Ent×Int:=
 if ¬inb zs.length s a then (0,[],2)
 else if (pE zs l s a).2.2≠0 then (0,[],(pE zs l s a).2.2)
 else if wr=true∧(pE zs l s a).1.2.2.2=false then (0,[],4)
 else (lO (pE zs l s a).1.2.2.1 a,(pE zs l s a).2.1,0)
theorem vn {zs:List Int} {l:List Ent} {s a:Int} {wr:Bool} (h:¬inb zs.length s a):iR zs l s a wr=(0,[],2):=by
 unfold iR;rw[ag h]
theorem zX {zs:List Int} {l m:List Ent} {s a k:Int} {wr:Bool} {e:Ent} (h:inb zs.length s a) (b:pE zs l s a=(e,m,k)) (hk:k≠0):iR zs l s a wr=(0,[],k):=by
 unfold iR;rw[ae (fun c=>c h),b,ag hk]
theorem nZ {zs:List Int} {l m:List Ent} {s a x y z:Int} (h:inb zs.length s a) (b:pE zs l s a=((x,y,z,false),m,0)):iR zs l s a true=(0,[],4):=by
 unfold iR;rw[ae (fun c=>c h),b,ae (fun c=>c rfl),ag ⟨rfl,rfl⟩]
theorem pd {zs:List Int} {l m:List Ent} {s a x y z:Int} {wr b:Bool} (h:inb zs.length s a) (i:pE zs l s a=((x,y,z,b),m,0)) (g:wr=false∨b=true):iR zs l s a wr=(lO z a,m,0):=by
 unfold iR;rw[ae (fun c=>c h),i,ae (fun c=>c rfl),ae];rintro⟨f,d⟩;simp only at d;rcases g with e|e
 ·rw[e] at f;cases f
 ·rw[e] at d;cases d
theorem yK {zs:List Int} {s a:Int} (h:inb zs.length s a):(eu zs s a).2.2=0∨(eu zs s a).2.2=9:=by
 unfold eu;rw[ae (fun c=>c h)];split
 ·exact .inr rfl
 ·split
  ·exact .inr rfl
  ·exact .inl rfl
theorem n9 (q v:Value) (zs:List Int) (l:List Ent) (s a:Int) (wr:Bool) (w:World) (K:Go.Proofs.YtnccmdndkmmhcaaGreatDoor.Wd.jQ w q zs) (hv:i9 w v l):
  Calls Tryz.prog 128 #[q,v,.int .i64 s,.int .i64 a,.bool wr] w fun r w'=>∃u,r=.returned (.tuple #[.int .i64 (iR zs l s a wr).1,u,.int .i64 (iR zs l s a wr).2.2])∧((iR zs l s a wr).2.2=0->(u=v∧(iR zs l s a wr).2.1=l)∨iC w.heap.size w' u (iR zs l s a wr).2.1)∧Below w.heap.size w w':=by
 have B:=hid hv;have E:=hid K;by_cases j:inb zs.length s a
 ·have e:=hid j;have a0:=j.2.2.2.2.1;have a1:=j.2.2.2.2.2;obtain⟨g,n⟩:∃g,eu zs s a=g:=⟨_,rfl⟩
  have o:=yK j;rw[n] at o;obtain⟨t,b,k⟩:=g;simp only at o;go_enter Tryz.func128,Tryz.ntmps128
  go_wp2_with fail
  refine (Go.Proofs.YtnccmdndkmmhcaaGreatDoor.Wd.lK q zs s a w E).mono ?_;rintro r w0 ⟨rfl,rfl⟩;rw[n];simp only;have L:(k==2)=false:=by rcases o with rfl|rfl<;>rfl
  go_wp2_with fail
  refine (wO v l s (a/16) w B).mono ?_;rintro r w1 ⟨rfl,D⟩;have G:=hid D;obtain⟨f,m⟩:∃f,ja l s (a/16)=f:=⟨_,rfl⟩
  rw[m];obtain⟨⟨x,y,z,u⟩,ok⟩:=f;unfold iE;have d:=hid (bal G (.cells #[.int .i64 x,.int .i64 y,.int .i64 z,.bool u] 40))
  cases ok with
  |true=>
   have C:=hid (B.below d);have i:=qT (zs:=zs) m
   cases wr with
   |false=>
    have c:=hid (pd (wr:=false) e i (Or.inl rfl));go_wp2_with fail
    refine ar (v:=.tuple #[.int .i64 (lO z a),v,.int .i64 0]) (by simp[lO,results,Tryz.results128,go_sem]) rfl ⟨v,by rw[c.out],fun _=>.inl ⟨rfl,by rw[c.out]⟩,d.out⟩
   |true=>
    cases u with
    |false=>
     have c:=hid (nZ e i);go_wp2_with fail
     refine ar (v:=.tuple #[.int .i64 0,.slice none 0 0,.int .i64 4]) (by simp[results,Tryz.results128,go_sem]) rfl ⟨_,by rw[c.out],fun h=>(by rw[c.out] at h;cases h),d.out⟩
    |true=>
     have c:=hid (pd (wr:=true) e i (Or.inr rfl));go_wp2_with fail
     refine ar (v:=.tuple #[.int .i64 (lO z a),v,.int .i64 0]) (by simp[lO,results,Tryz.results128,go_sem]) rfl ⟨v,by rw[c.out],fun _=>.inl ⟨rfl,by rw[c.out]⟩,d.out⟩
  |false=>
   rcases o with rfl|rfl
   ·have i:=yf m n;have C:=hid (B.below d);go_wp2_with fail
    generalize World.alloc _ _=I at d C ⊢;refine (va v l s (a/16) t b I C).mono ?_;rintro r M ⟨p,rfl,J,D⟩;have F:=hid (J.low d.size);have A:=hid (btr d D)
    cases wr with
    |false=>
     have c:=hid (pd (wr:=false) e i (Or.inl rfl));go_wp2_with fail
     refine ar (v:=.tuple #[.int .i64 (lO t a),p,.int .i64 0]) (by simp[lO,results,Tryz.results128,go_sem]) rfl ⟨p,by rw[c.out],fun _=>.inr (by rw[c.out];exact F),A.out⟩
    |true=>
     cases b with
     |false=>
      have c:=hid (nZ e i);go_wp2_with fail
      refine ar (v:=.tuple #[.int .i64 0,.slice none 0 0,.int .i64 4]) (by simp[results,Tryz.results128,go_sem]) rfl ⟨_,by rw[c.out],fun h=>(by rw[c.out] at h;cases h),A.out⟩
     |true=>
      have c:=hid (pd (wr:=true) e i (Or.inr rfl));go_wp2_with fail
      refine ar (v:=.tuple #[.int .i64 (lO t a),p,.int .i64 0]) (by simp[lO,results,Tryz.results128,go_sem]) rfl ⟨p,by rw[c.out],fun _=>.inr (by rw[c.out];exact F),A.out⟩
   ·have c:=hid (zX (wr:=wr) e (Bd m n oD) oD);go_wp2_with fail
    refine ar (v:=.tuple #[.int .i64 0,.slice none 0 0,.int .i64 9]) (by simp[results,Tryz.results128,go_sem]) rfl ⟨_,by rw[c.out],fun h=>(by rw[c.out] at h;cases h),d.out⟩
 ·have c:=hid (vn (l:=l) (wr:=wr) j);have H:=hid (iY j);go_enter Tryz.func128,Tryz.ntmps128
  go_wp2_with fail
  refine (Go.Proofs.YtnccmdndkmmhcaaGreatDoor.Wd.lK q zs s a w E).mono ?_;rintro r w0 ⟨rfl,rfl⟩;rw[H.out];go_wp2_with fail
  refine ar (v:=.tuple #[.int .i64 0,.slice none 0 0,.int .i64 2]) (by simp[results,Tryz.results128,go_sem]) rfl ⟨_,by rw[c.out],fun h=>(by rw[c.out] at h;cases h),af _ _⟩
end Mmu
namespace Wd
open Go.RowKit Mem Bw Nums Mmu
theorem pL {p:PW} (i:Nat) (v:Int):(p.IE.set i v).length=p.IE.length:=au ..
theorem kN.set {p:PW} (h:kN p) {i:Nat} {v:Int} (hi:i<p.IE.length) (hv:0<=v∧v<=65535) (b:beB p (p.k (i/16)) v=false):kN {p with IE:=p.IE.set i v}:=by
 refine⟨fun x c=>?_,fun j a=>?_⟩
 ·rcases aZ c with g|g
  ·exact h.w x g
  ·rw[g];exact hv
 ·have a:j<p.IE.length:=by rwa [pL] at a
  show beB {p with IE:=p.IE.set i v} (p.k (j/16)) ((p.IE.set i v).getD j 0)=false
  rw[dw hi];split
  ·rename_i e;rw[e];exact b
  ·exact h.e j a
theorem Lw.word {p:PW} (h:Lw p) {i:Nat} {v:Int} (hi:i<p.IE.length) (hv:0<=v∧v<=65535) (d:beB p (p.k (i/16)) v=false) (h0:p.k (i/16)=3∨p.k (i/16)=4->p.IE.getD i 0=0):Lw {p with IE:=p.IE.set i v}:=by
 obtain⟨r,n⟩:=h.m.keys;refine⟨⟨h.m.ks,h.m.ds,⟨r,n.to rfl rfl⟩,h.m.op,h.m.IE.set hi hv d,h.m.tk.same (h.m.tk.lf.of (e4:=pL i v))⟩,fun l hl=>(h.tl l hl).Jl fun e g=>rC h.m.IE h.m.tk.lf (fun f a=>(kW (p:={p with IE:=p.IE.set i v}) (iM (p:=p) (by rw[a];decide))).trans (by show (p.k f==4)=true;rw[a];rfl)) (pL i v) (fun j b c=>?_) g,h.tm⟩;show (p.IE.set i v).getD j 0=_
 rw[dw hi,ae];intro e;rw[e] at b c;exact c (h0 b)
theorem Lv.word {p:PW} (h:Lv p) {i:Nat} {v:Int} (hi:i<p.IE.length) (hv:0<=v∧v<=65535) (a:beB p (p.k (i/16)) v=false) (h0:p.k (i/16)=3∨p.k (i/16)=4->p.IE.getD i 0=0):Sm p {p with IE:=p.IE.set i v}:=h.to (h.w.word hi hv a h0) rfl rfl rfl
theorem Lw.JH {p:PW} (h:Lw p) {i:Nat} (hi:i<p.IE.length):Lw (fwP {p with IE:=p.IE.set i 0} 0 (-1)):=by
 obtain⟨r,c⟩:=h.m.keys;have m:Md (fun _=>False) {p with IE:=p.IE.set i 0}:=⟨h.m.ks,h.m.ds,⟨r,c.to rfl rfl⟩,h.m.op,h.m.IE.set hi oD (gf.2 ⟨fun _=>.inl rfl,fun _=>.inl rfl⟩),h.m.tk.same (h.m.tk.lf.of (e4:=pL i 0))⟩;refine⟨m.ID oS,fun l hl=>?_,h.tm⟩;obtain⟨l0,h0,rfl⟩:=List.mem_map.1 (show l∈p.ID.map _ from hl);refine (h.tl l0 h0).filter fun e b a=>?_;have t:=(h.tl l0 h0).t e b;unfold d7 at t ⊢;unfold kpE at a;simp only[am,bu,bf] at t a ⊢;rw[show e.2.1*16=16*e.2.1 by omega];exact⟨⟨t.1.1,t.1.2⟩,a.1⟩
theorem Lv.JH {p:PW} (h:Lv p) {i:Nat} (hi:i<p.IE.length):Sm p (fwP {p with IE:=p.IE.set i 0} 0 (-1)):=h.to (h.w.JH hi) rfl rfl (by show (p.ID.map _).length=_;simp)
theorem Lw.has {p:PW} (h:Lw p) {t:Nat} (a:p.k t=6) {k:Nat} {v:Int} (hk:k≠9∧k≠10∧k≠14∧k≠17∧k≠18) (hv:fOk p k v=true):Lw (p.task t k v):=h.tk (h.m.tk.Ju a hv hk.2.2.2.1 (.inr ⟨hk.1,hk.2.1,hk.2.2.1,hk.2.2.2.2⟩) (fun e=>absurd e hk.1)) ((dO p).task _ _ _)
theorem Lv.has {p:PW} (h:Lv p) {t:Nat} (a:p.k t=6) {k:Nat} {v:Int} (hk:k≠9∧k≠10∧k≠14∧k≠17∧k≠18) (hv:fOk p k v=true):Sm p (p.task t k v):=h.rs (h.w.has a hk hv) ((dO p).task _ _ _)
theorem Lv.Jq {p:PW} (h:Lv p) {t:Nat} (a:p.k t=6) {k:Nat} {v:Int} (hk:k<=8) (hv:0<=v∧v<=65535):Sm p (p.task t k v):=h.rs (h.w.Jq a (.inl hk) hv) ((dO p).task _ _ _)
theorem Lv.JK {p:PW} (h:Lv p) {c:Nat} {l:List Ent} (hl:TlO p l):Sm p {p with ID:=p.ID.set c l}:=by
 refine h.to ⟨h.w.m.ID oS,fun m b=>?_,h.w.tm⟩ rfl rfl oS;have k:∀m,TlO p m->TlO {p with ID:=p.ID.set c l} m:=fun m g=>g.Jl fun e a=>(iK (p:=p) (q:={p with ID:=p.ID.set c l}) rfl rfl e).trans a;rcases aZ b with g|g
 ·exact k m (h.w.tl m g)
 ·rw[g];exact k l hl
theorem Lw.tick {p:PW} (h:Lw p):Lw {p with time:=p.time+1}:=by
 obtain⟨r,b⟩:=h.m.keys;exact⟨⟨h.m.ks,h.m.ds,⟨r,b.to rfl rfl⟩,h.m.op,⟨h.m.IE.w,h.m.IE.e⟩,h.m.tk.same h.m.tk.lf.of⟩,fun l hl=>(h.tl l hl).Jl fun e a=>(iK (p:=p) (q:={p with time:=p.time+1}) rfl rfl e).trans a,by show 0<=p.time+1;have:=h.tm;omega⟩
theorem rD {p:PW} (h:Lw p) {e:Ent} (l:d7 p e=true):∃f:Nat,e.2.2.1=f∧p.k f=2:=by
 unfold d7 at l;simp only[am,bu,bf] at l;obtain⟨⟨w,D⟩,⟨c,d⟩,_⟩:=l;obtain⟨s,q,B,r⟩:=fd w;rw[q] at c d;generalize F:e.2.1*16=a at*;have lf:=h.m.tk.lf;unfold eu at c d;by_cases c1:¬inb p.IE.length s a
 ·rw[ag c1] at c;cases c
 rw[ae c1] at c d;by_cases c2:¬isE (e1 p.IE s a) (n16 p.IE)
 ·rw[ag c2] at c;cases c
 rw[ae c2] at c d;by_cases i:¬isE (e2 p.IE (e1 p.IE s a%1024) a) (n16 p.IE)
 ·rw[ag i] at c;cases c
 rw[ae i] at d;have E:0<=a∧a/256<=15:=oA;have o:¬isE 0 (n16 p.IE):=by unfold isE;omega
 have x:((s:Int)*16+a/256).toNat<p.IE.length:=by have:=lf.IE;omega
 have b1:=(gf.1 (h.m.IE.e _ x)).1 (by rw[show ((s:Int)*16+a/256).toNat/16=s by omega];exact r);obtain⟨t,n,C,v⟩:=fd (b1.resolve_left fun y=>c2 (by unfold e1;rw[y];exact o));have n:e1 p.IE s a - 32768=t:=n;have k2:=lf.k2;have A:e1 p.IE s a%1024=t:=oA;rw[A] at d i;have z:((t:Int)*16+a/16%16).toNat<p.IE.length:=by have:=lf.IE;omega
 have b2:=(gf.1 (h.m.IE.e _ z)).2 (by rw[show ((t:Int)*16+a/16%16).toNat/16=t by omega];exact v);have d:=d;rcases b2.resolve_left fun y=>i (by unfold e2;rw[y];exact o) with b|b
 ·obtain⟨f,g,u,j⟩:=fd b;have g:e2 p.IE t a - 32768=f:=g;exact⟨f,oA,j⟩
 ·obtain⟨f,g,u,j⟩:=fd b;have g:e2 p.IE t a - 32768 - 16384=f:=g;exact⟨f,oA,j⟩
theorem Br {z:Int} (h0:0<=z) (a:z<=100000):wrap64 z=z:=by unfold wrap64;omega
theorem DD (zs:List Int) (s a:Int) (e:0<=a∧a<4096):eu zs s (a/16*16)=eu zs s a:=by
 have b:e1 zs s (a/16*16)=e1 zs s a:=by unfold e1;rw[show a/16*16/256=a/256 by omega]
 have d:∀t,e2 zs t (a/16*16)=e2 zs t a:=fun t=>by unfold e2;rw[show a/16*16/16%16=a/16%16 by omega]
 have hi:inb zs.length s (a/16*16)↔inb zs.length s a:=by unfold inb;omega
 unfold eu;rw[b,d];by_cases c:inb zs.length s a
 ·rw[ae (not_not_intro (hi.2 c)),ae (not_not_intro c)]
 ·rw[ag (fun y=>c (hi.1 y)),ag c]
theorem TlO.fill {p:PW} {l:List Ent} (h:TlO p l) {e:Ent} (a:d7 p e=true):TlO p (sg l e):=by
 have f:∀x∈sg l e,x=e∨x∈ik l e.1 e.2.1:=fun x b=>by
  have:=List.mem_of_mem_drop b;rw[dH,dm] at this;exact this.symm
 refine⟨qC _,fun x b=>?_,?_⟩
 ·rcases f x b with g|g
  ·rw[g];exact a
  ·exact h.t x (List.mem_filter.1 g).1
 ·unfold sg lN;refine List.Pairwise.drop ?_;rw[List.pairwise_append];refine⟨h.d.filter _,List.pairwise_singleton _ _,fun x b y c=>?_⟩;rw[dm] at c;rw[c];have:=(List.mem_filter.1 b).2;obtain⟨_,i,_⟩:=(show isB p e.1 4=true∧(0<=e.2.1∧e.2.1<=255)∧True from by
   unfold d7 at a;simp only[am,bf] at a;exact⟨a.1.1,a.1.2,trivial⟩)
  unfold lQ at this;unfold pg;have j:=i.1;simp[j] at this ⊢;omega
theorem xw {p:PW} (h:Lw p) {l:List Ent} (hl:TlO p l) {s a:Int} {wr:Bool} (j:fA p s 4=true) (c:(iR p.IE l s a wr).2.2=0):
  TlO p (iR p.IE l s a wr).2.1∧∃f:Nat,p.k f=2∧(iR p.IE l s a wr).1=f*16+a%16∧0<=a:=by
 unfold iR at c ⊢;by_cases c1:¬inb p.IE.length s a
 ·rw[ag c1] at c;cases c
 rw[ae c1] at c ⊢;have c1:=Decidable.not_not.1 c1;have o:0<=a∧a<4096:=⟨c1.2.2.2.2.1,c1.2.2.2.2.2⟩;by_cases c2:(pE p.IE l s a).2.2≠0
 ·rw[ag c2] at c;exact absurd c c2
 rw[ae c2] at c ⊢;have c2:=Decidable.not_not.1 c2;by_cases n:wr=true∧(pE p.IE l s a).1.2.2.2=false
 ·rw[ag n] at c;cases c
 rw[ae n];have key:TlO p (pE p.IE l s a).2.1∧d7 p (pE p.IE l s a).1=true:=by
  obtain⟨f,d⟩:∃f,ja l s (a/16)=f:=⟨_,rfl⟩
  obtain⟨e,ok⟩:=f
  cases ok with
  |true=>
   rw[qT d];refine⟨hl,hl.t e ?_⟩;unfold ja at d;split at d
   ·rename_i hlt;injection d with g _
    rw[<-g];exact av hlt
   ·injection d with _ g
    cases g
  |false=>
   obtain⟨g,i⟩:∃g,eu p.IE s a=g:=⟨_,rfl⟩
   obtain⟨t,b,k⟩:=g;by_cases hk:k=0
   ·subst hk;rw[yf d i];have q:d7 p (s,a/16,t,b)=true:=by
     unfold d7;have v:isB p s 4=true:=by
      unfold fA at j;rw[bZ] at j;exact j.resolve_left fun e=>by have:=eq_of_beq e;have:=c1.2.2.1;omega
     show (isB p s 4&&decide (0<=a/16∧a/16<=255)&&((eu p.IE s (a/16*16)).2.2==0&&(eu p.IE s (a/16*16)).1==t&&(eu p.IE s (a/16*16)).2.1==b))=true
     rw[DD _ _ _ o,i,v,az oA];simp
    exact⟨hl.fill q,q⟩
   ·rw[Bd d i hk] at c2;exact absurd c2 hk
 refine⟨key.1,?_⟩;obtain⟨f,r,u⟩:=rD h key.2;have w:=iM (p:=p) (f:=f) oA;have k2:=h.m.tk.lf.k2;refine⟨f,u,?_,o.1⟩;show lO (pE p.IE l s a).1.2.2.1 a=_
 rw[r];unfold lO;rw[Br (z:=(f:Int)*16) oA oA,Br oA oA]
theorem o9 {p:PW} {f:Nat} (h0:p.k f=0) {v k:Int} (h:fA p v k=true) (hk:k≠0):v≠f:=fun e=>by
 subst e;unfold fA at h;rw[bZ] at h;rcases h with h|h
 ·have:=bu.1 h;omega
 ·obtain⟨g,b,_,a⟩:=fd h;obtain rfl:f=g:=oA;exact hk (a.symm.trans h0)
section
variable {p : PW} (h : Lw p) {f : Nat} (h0 : p.k f = 0)
include h h0
theorem Ca:p.li f=[]:=List.eq_nil_iff_forall_not_mem.2 fun z d=>by
 have x:=h.m.tk.q;obtain⟨n,rfl,e,c,b,g⟩:=x.ln f z d;obtain⟨a,e1,e2,_⟩:=x.la n c e b;obtain rfl:f=a:=oA;exact b (e2.symm.trans h0)
theorem wj:∀k,k<20->p.t f k=bl k:=h.m.tk.a.no f (by rw[h0];decide)
theorem Es (n:Nat) {k:Nat} (hk:k=11∨k=12∨k=13∨k=14∨k=17):p.t n k≠f:=by
 have x:=h.m.tk;by_cases b:p.k n=6
 ·rcases hk with rfl|rfl|rfl|rfl|rfl
  ·exact o9 h0 (x.a.ok n b 11 oD) oD
  ·exact o9 h0 (x.a.ok n b 12 oD) oD
  ·exact o9 h0 (x.a.ok n b 13 oD) oD
  ·by_cases c:pl (p.t n 9)=0
   ·rw[x.q.a1 n b id c];omega
   ·obtain⟨a,e1,e2,_⟩:=x.q.la n b id c;rw[e1];intro e;obtain rfl:a=f:=oA;exact c (e2.symm.trans h0)
  ·rcases x.o.ow n with e|⟨u,e1,e2,_⟩
   ·rw[e];omega
   ·rw[e1];intro e;obtain rfl:u=f:=oA;have:=wj h h0 9 oD;rw[e2] at this;exact absurd this oD
 ·rcases hk with rfl|rfl|rfl|rfl|rfl<;>rw[x.a.no n b _ oD]<;>show (-1:Int)≠f<;>omega
theorem zi {l:List Ent} (hl:l∈p.ID) {e:Ent} (d:e∈l):e.1≠f∧e.2.2.1≠f:=by
 have b:=(h.tl l hl).t e d;obtain⟨g,j,hk⟩:=rD h b;unfold d7 at b;simp only[am] at b;obtain⟨a,i,_,c⟩:=fd b.1.1;refine⟨fun x=>?_,fun x=>?_⟩
 ·obtain rfl:f=a:=oA;exact absurd (c.symm.trans h0) oD
 ·obtain rfl:f=g:=oA;exact absurd (hk.symm.trans h0) oD
theorem zh (i:Nat):opn f (p.s i)=false:=by
 cases hx:opn (f:Int) (p.s i) with
 |false=>rfl
 |true=>
  obtain⟨a,b,c⟩:=gr.1 hx;obtain⟨r,j⟩:=h.m.keys;rcases (j.key i a).is with e|e
  ·exact absurd e b
  ·obtain⟨g,k,_,d⟩:=fd e;obtain rfl:f=g:=oA;exact absurd (d.symm.trans h0) a
end
theorem zS {p:PW} (h:Lw p) {f:Nat} (h0:p.k f≠0):∃i,i<p.IA.length∧opn f (p.s i)=true:=by
 obtain⟨i,hi⟩:=h.m.op f h0;exact⟨i,rf (gr.1 hi).1,hi⟩
section
variable {P : Program} {ops : Array Oper} {Q : Exit -> Act -> World -> Prop} {a : Act} {w : World} {rest : List Oper} {o : Oper}
end
theorem F2 (V:Nat->Value) (p:PW) (w:World) (hv:fp w V p) (g:p.Fits) (h:rK p=true) (hk:0<p.kinds.length):
  Calls Tryz.prog 19 #[.agg (de V)] w fun r w'=>r=.returned (.bool true)∧Below w.heap.size w w':=by
 have b:=hid (oH w V 28);have a:=hid (bal (af w.heap.size w) (.cells (de V) 28));have e:=hid (tv V p _ (hv.below a) g (oq h));obtain⟨q1,b1,j,k1,e1,_,_⟩:=hv.kinds;have f:=hid e1;have i:(0:Int)<(p.kinds.length:Int):=oA;go_enter Tryz.func19,Tryz.ntmps19
 go_wp2_with (first|((with_reducible refine gld 28 ?_);refine jt rfl _ rfl w.heap.size rfl V b ?_))
 refine e.mono ?_;rintro r w1 ⟨rfl,c⟩;have c1:=r11 1 (bK b c);rw[f.out] at c1;have d:=hid (btr a c);go_wp2_with fail
 go_ret
 exact⟨rfl,d.out⟩
