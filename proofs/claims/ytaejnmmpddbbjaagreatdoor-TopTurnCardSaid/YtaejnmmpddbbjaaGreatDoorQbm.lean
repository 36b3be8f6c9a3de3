/- Qbm -/
import Derived.Maps.AppendAt
import Derived.Deep.RegionHeld3
import Derived.BigQuiet
import Derived.Test.YtaejnmmpddbbjaaGreatDoorQbg
set_option maxRecDepth 100000
set_option maxHeartbeats 16000000
namespace Go.Proofs.YtaejnmmpddbbjaaGreatDoor
namespace Mmu
open Go.RowKit Mem Bw Nums
theorem wi (v:Value) (l:List Ent) (s p:Int) (w:World) (N:jk w v l):
  Calls Tryz.prog 82 #[v,.int .i64 s,.int .i64 p] w fun r w'=>r=.returned (iJ (jg l s p))∧Below w.heap.size w w':=by
 obtain⟨q,b,off,cap,rfl,K,O,hl⟩:=N;have H:=hid K;have I:=hid O;have U:(l.length:Int)<=100:=oA;have d:=hid (bal (ag w.heap.size w) (.cells #[.int .i64 0,.int .i64 0,.int .i64 0,.bool false] 56));have D:=hid (bM w #[.int .i64 0,.int .i64 0,.int .i64 0,.bool false] 56);have a:=hid (ik w);go_enter Tryz.func82,Tryz.ntmps82
 go_wp2_with fail
 generalize World.alloc _ _=W at d D a ⊢
 go_loopw [8] (fun i wr=>∃k:Nat,k<=l.length∧i=.int .i64 k∧Hid (∀j (c:j<l.length),j<k->pg s p l[j]=false)∧W=wr) (fun i _=>l.length - (intOf i).toNat)
 case atStart=>exact⟨0,oA,rfl,fun j _ h=>oA,rfl⟩
 case round=>
  obtain⟨k,hk,rfl,B,rfl⟩:=hrel;have E:=D.out;have V:=a.out 0 oD;have X:=a.out 1 oD;have Y:=a.out 2 oD;have Z:=a.out 3 oD;by_cases C:k<l.length
  ·have g:(k:Int)<(l.length:Int):=oA;have T:¬((k:Int)<0):=oA;have L:=H.out oA;subst L;obtain⟨c0,c1,c2,F⟩:=(I.below d) k C;have f:=hid (show pg s p l[k]=true->jg l s p=(l[k],true) from fun M=>
    tc C ((List.findIdx_eq C).2 ⟨M,fun j c=>B.out j oA c⟩))
   have n:=hid (show pg s p l[k]=false->∀j (c:j<l.length),j<k+1->pg s p l[j]=false from fun J j c S=>by
    by_cases e:j=k
    ·subst e;exact J
    ·exact B j c oA)
   generalize l[k]=e at c0 c1 c2 F f n;obtain⟨x,y,z,u⟩:=e;simp only at c0 c1 c2 F;by_cases t:x=s
   ·subst t;have P:(x==x)=true:=oS;by_cases A:y=p
    ·subst A;have Q:(y==y)=true:=oS;have G:=hid (f.out (by simp[pg]));go_wp2_with fail
     have o:=jB (v0:=.int .i64 x) (v1:=.int .i64 y) (v2:=.int .i64 z) (v3:=.bool u) E;refine ar (v:=iJ ((x,y,z,u),true)) (by simp[iJ,results,Tryz.results82,go_sem,o]) rfl ⟨by rw[G.out],?_⟩;exact iA (iA (iA (iA d (aq _) _) (aq _) _) (aq _) _) (aq _) _
    ·have Q:(y==p)=false:=by simpa using A
     have m:=hid (n.out (by simp[pg,A]));go_wp2_with fail
     exact⟨⟨k+1,oA,by go_num,m,by trivial⟩,by simp[intOf];omega⟩
   ·have P:(x==s)=false:=by simpa using t
    have m:=hid (n.out (by simp[pg,t]));go_wp2_with fail
    exact⟨⟨k+1,oA,by go_num,m,by trivial⟩,by simp[intOf];omega⟩
  ·obtain rfl:k=l.length:=oA;have R:¬((l.length:Int)<(l.length:Int)):=oA;have f:=hid (wh (l:=l) (s:=s) (p:=p) (by
    intro g;have:=dR (w:=g);rw[B.out _ g g] at this
    cases this))
   go_wp2_with fail
   have o:=jB (v0:=.int .i64 0) (v1:=.int .i64 0) (v2:=.int .i64 0) (v3:=.bool false) E;refine ar (v:=iJ ((0,0,0,false),false)) (by simp[iJ,results,Tryz.results82,go_sem,o]) rfl ⟨by rw[f.out],?_⟩;exact iA (iA (iA (iA d (aq _) _) (aq _) _) (aq _) _) (aq _) _
def lX (s p:Int) (e:Ent):Bool:=e.1 !=s||(decide (0<=p)&&e.2.1 !=p)
def iy (l:List Ent) (s p:Int):List Ent:=l.filter (lX s p)
theorem oU (l:List Ent) (s p:Int):(iy l s p).length<=l.length:=dG _ _
theorem vQ {l:List Ent} {s p:Int} {k:Nat} (h:k<l.length):iy (l.take (k+1)) s p=iy (l.take k) s p++(if lX s p l[k]=true then [l[k]] else []):=by
 unfold iy;rw[bF h,eE];by_cases a:lX s p l[k]=true
 ·rw[ah a,List.filter_cons_of_pos a];rfl
 ·rw[ae a,eW a];rfl
theorem iU (v:Value) (l:List Ent) (s p:Int) (w:World) (Q:jk w v l):
  Calls Tryz.prog 132 #[v,.int .i64 s,.int .i64 p] w fun r w'=>∃u,r=.returned u∧w'.ownsRow w.heap.size 56 4 u (iy l s p).length (fx (iy l s p))∧Below w.heap.size w w':=by
 obtain⟨i0,hi,I,J,K⟩:=fj mJ;obtain⟨q,b,off,cap,rfl,O,R,hl⟩:=Q;have M:=hid O;have N:=hid R;have aa:(l.length:Int)<=100:=oA;go_enter Tryz.func132,Tryz.ntmps132
 go_wp2_with fail
 go_loopw [7,8] (fun u i wr=>∃(k:Nat) (m:List Ent),k<=l.length∧i=.int .i64 k∧Hid (m=iy (l.take k) s p)∧Hid (wr.ownsRow w.heap.size 56 4 u m.length (fx m))∧Hid (Below w.heap.size w wr)) (fun _ i _=>l.length - (intOf i).toNat)
 case atStart=>exact⟨0,[],oA,rfl,hid rfl,hid (cO _ _ _ _),hid (ag _ _)⟩
 case round=>
  obtain⟨k,m,hk,rfl,g,c,a⟩:=hrel;have hm:m.length<=100:=by
   rw[g.out];exact aB (oU _ _ _) (by rw[bL];omega)
  by_cases H:k<l.length
  ·have ab:(k:Int)<(l.length:Int):=oA;have Z:¬((k:Int)<0):=oA;have P:=M.out oA;subst P;obtain⟨c0,c1,c2,G⟩:=(N.below a) k H;have t:=hid (vQ (s:=s) (p:=p) H);generalize l[k]=e at c0 c1 c2 G t;obtain⟨x,y,z,u⟩:=e;simp only at c0 c1 c2 G;have F:=hid (show lX s p (x,y,z,u)=true->m++[(x,y,z,u)]=iy (l.take (k+1)) s p from fun h=>by rw[t.out,ah h,g.out]);have E:=hid (show lX s p (x,y,z,u)=false->m=iy (l.take (k+1)) s p from fun h=>by rw[t.out,ae (by rw[h];decide),g.out,d9]);have X:=hid (show lX s p (x,y,z,u)=true->True from fun _=>trivial);by_cases C:x=s
   ·subst C;have S:(x !=x)=false:=oS;by_cases j:0<=p
    ·have U:=j;by_cases D:y=p
     ·subst D;have T:(y !=y)=false:=oS;have o:=hid (E.out (by simp[lX]));go_wp2_with fail
      exact⟨⟨k+1,m,oA,by go_num,o,c,a⟩,by simp[intOf];omega⟩
     ·have T:(y !=p)=true:=by simpa using D
      have A:=hid (F.out (by simp[lX,D,j]));go_wp2_with (at_builtin;refine bg _ rfl _ _ 31 rfl w.heap.size 56 i0 (.agg #[.int .i64 0,.int .i64 0,.int .i64 0,.bool false]) 4 32 Tryz.underlying31 hi I J K rfl oD _ _ _ rfl (c.alloc _) ⟨_,0,none⟩ 1 1 [.int .i64 x,.int .i64 y,.int .i64 z,.bool u] rfl rfl (iq _ _ _ _ _ _) (fZ _ _ _ _) (by unfold maxLen;omega) oA (by have:=a.size;simp;omega) ?_;intro V W f d _;have n:=hid ((bal a _).grown d (by have:=a.size;simp;omega) (fun k hk=>(c.lt k hk).1));have B:=hid f;clear f d)
      refine⟨⟨k+1,m++[(x,y,z,u)],oA,by go_num,A,hid ?_,n⟩,by simp[intOf];omega⟩;rw[gK,ax];exact B
    ·have U:=j;have o:=hid (E.out (by simp[lX,j]));go_wp2_with fail
     exact⟨⟨k+1,m,oA,by go_num,o,c,a⟩,by simp[intOf];omega⟩
   ·have S:(x !=s)=true:=by simpa using C
    have A:=hid (F.out (by simp[lX,C]));go_wp2_with (at_builtin;refine bg _ rfl _ _ 31 rfl w.heap.size 56 i0 (.agg #[.int .i64 0,.int .i64 0,.int .i64 0,.bool false]) 4 32 Tryz.underlying31 hi I J K rfl oD _ _ _ rfl (c.alloc _) ⟨_,0,none⟩ 1 1 [.int .i64 x,.int .i64 y,.int .i64 z,.bool u] rfl rfl (iq _ _ _ _ _ _) (fZ _ _ _ _) (by unfold maxLen;omega) oA (by have:=a.size;simp;omega) ?_;intro V W f d _;have n:=hid ((bal a _).grown d (by have:=a.size;simp;omega) (fun k hk=>(c.lt k hk).1));have B:=hid f;clear f d)
    refine⟨⟨k+1,m++[(x,y,z,u)],oA,by go_num,A,hid ?_,n⟩,by simp[intOf];omega⟩;rw[gK,ax];exact B
  ·obtain rfl:k=l.length:=oA;have Y:¬((l.length:Int)<(l.length:Int)):=oA;have L:=hid (show m=iy l s p by rw[g.out,cT]);go_wp2_with fail
   go_ret
   refine⟨_,rfl,?_,a.out⟩;rw[<-L.out];exact c
end Mmu
namespace Mmu
open Go.RowKit Mem Bw Nums
-- from MmuClone.tpl
theorem ju {w:World} {B a e size n:Nat} {v:Value} {xs:List Value} (h:w.ownsRow B e size v n xs) (hB:a<=B):w.ownsRow a e size v n xs:=by
 refine⟨h.1,?_⟩;rcases h.2 with b|⟨g,cap,c,d,b,f⟩
 ·exact .inl b
 ·exact .inr ⟨g,cap,c,d,oA,f⟩
theorem gG {P:Program} {ops:Array Oper} {o:Oper} {a:Act} {w:World} {K:Act->World->Prop} {Q:Exit->Act->World->Prop} {E:Prop}
  (D:o.guard=none) (s x:Operand) (t:TypeId) (G:o.op=Op.call {callee:=Callee.builtin Builtin.append,args:=#[s,x],argTypes:=#[t,t]})
  (B:Nat) (e:TypeId) (i:TypeInfo) (z:Value) (size bytes:Nat) (g:P.underlying t=some (.slice e)) (k:P.info? e=some i) (l:i.zero=some z) (p:i.size=size) (q:i.bytes=bytes) (r:z.cells.size=size) (y:0<size)
  (v:Value) (n:Nat) (xs:List Value) (J:a.eval s=v) (H:w.ownsRow B e size v n xs)
  (f:Addr) (m c:Nat) (b:List Value) (M:a.eval x=.slice (some f) m c) (F:b.length=m*size) (C:∀j u,b[j]? =some u->w.cell? (f.add j)=some u) (h:∀u∈b,u.oneCell'=true)
  (b1:n+m<=maxLen) (b2:(n+m)*bytes<=140737488355328) (hB:B<=w.heap.size)
  (A:∀d w',w'.ownsRow B e size d (n+m) (xs++b)->w.grownBy w' v.ownBlock->K (a.put o.dst d) w'):
  if Region.wanted o (yielded ops a.tmps)=true then Oper.wp P o a w K Q else E:=by
 have L:Region.wanted o (yielded ops a.tmps)=true:=by simp[Region.wanted,D]
 rw[ah L];obtain⟨d,w',I,N,O,_⟩:=run_append_own (P:=P) w B t o.type e i z size bytes g k l p q r y v n xs H f m c b F C h b1 b2 hB;unfold Oper.wp;simp[execOp,G,resolve,invoke,builtin,J,M,I,Result.andThen];exact A d w' N O
def lU (l:List Ent):List Ent:=l.drop (l.length - 4)
def r5 (l:List Ent) (e:Ent):List Ent:=lU (iy l e.1 e.2.1++[e])
theorem qy (l:List Ent):(lU l).length<=4:=by
 unfold lU;rw[eU];omega
theorem zc (l:List Ent) (s p:Int) (h:p<0):iy l s (-1)=iy l s p:=by
 unfold iy
 congr 1
 funext e
 have:¬(0<=p):=oA;simp[lX,this]
def iH (B:Nat) (w:World) (v:Value) (l:List Ent):Prop:=∃q b off cap,v=.slice q l.length cap∧(0<l.length∧q=some ⟨b,off,none⟩)∧ji w b off l∧l.length<=100∧B<=b∧l.length<=cap
theorem iH.low {B a:Nat} {w:World} {v:Value} {l:List Ent} (h:iH B w v l) (hB:a<=B):iH a w v l:=by
 obtain⟨q,b,off,cap,c,d,e,f,g,i⟩:=h;exact⟨q,b,off,cap,c,d,e,f,aB hB g,i⟩
theorem Aa {w:World} {B:Nat} {v:Value} {m:List Ent} (h:w.ownsRow B 56 4 v m.length (fx m)) (l:0<m.length):
  ∃g cap,v=.slice (some ⟨g,0,none⟩) m.length cap∧m.length<=cap∧B<=g∧∀k,k<=m.length->ji w g (k*4) (m.drop k):=by
 rcases h.2 with ⟨rfl,a⟩|⟨g,cap,i,rfl,a,n,d,_⟩
 ·omega
 ·refine⟨g,cap,rfl,d,a,fun k hk j e=>?_⟩;rw[eU] at e;have f:k+j<m.length:=oA;obtain⟨b,e1,e2,c⟩:=mr m (k+j) f;rw[show k*4+j*4=(k+j)*4 by omega,List.getElem_drop];rw[h.cellAt ((k+j)*4) oA,h.cellAt ((k+j)*4+1) oA,h.cellAt ((k+j)*4+2) oA,h.cellAt ((k+j)*4+3) oA];exact⟨b,e1,e2,c⟩
theorem At {w:World} {B g cap:Nat} {m:List Ent} (b:0<m.length) (hB:B<=g) (a:(lU m).length<=cap) (h:ji w g ((m.length - 4)*4) (m.drop (m.length - 4))):iH B w (.slice (some ⟨g,(m.length - 4)*4,none⟩) (m.length - (m.length - 4)) cap) (lU m):=by
 refine⟨some ⟨g,(m.length - 4)*4,none⟩,g,(m.length - 4)*4,cap,?_,⟨by unfold lU;rw[eU];omega,rfl⟩,h,aB (qy m) oD,hB,a⟩;unfold lU;rw[eU]
theorem oo {W w1:World} {a b c d:Value} {e:TypeId} (f:Below (W.alloc (.cells #[a,b,c,d] e)).heap.size (W.alloc (.cells #[a,b,c,d] e)) w1):∀(j:Nat) (x:Value),[a,b,c,d][j]? =some x->w1.cell? ((⟨W.heap.size,0,none⟩:Addr).add j)=some x:=by
 intro j x h;have:=iq W a b c d e j x h;rw[sP] at this ⊢;exact (f.cell (aj _ _ this)).trans this
def HA:Value->Nat
 | .slice _ n _=>n
 |_=>0
theorem uL (v:Value) (l:List Ent) (a:Int) (e1:Int) (e2:Int) (d:Bool) (w:World) (Y:jk w v l):
  Calls Tryz.prog 83 #[v,.agg #[.int .i64 a,.int .i64 e1,.int .i64 e2,.bool d]] w fun r w'=>∃u,r=.returned u∧iH w.heap.size w' u (r5 l (a,e1,e2,d))∧Below w.heap.size w w':=by
 obtain⟨i0,hi,J,K,L⟩:=fj mJ;have hl:l.length<=100:=by obtain⟨_,_,_,_,_,_,_,h⟩:=Y;exact h
 have H:=hid Y;have B:=hid (bal (ag w.heap.size w) (.cells #[.int .i64 a,.int .i64 e1,.int .i64 e2,.bool d] 56));have C:=hid (bM w #[.int .i64 a,.int .i64 e1,.int .i64 e2,.bool d] 56);have I:=hid (show (w.alloc (.cells #[.int .i64 a,.int .i64 e1,.int .i64 e2,.bool d] 56)).heap.size=w.heap.size+1 by simp);obtain⟨i,O⟩:∃W,W=w.alloc (.cells #[.int .i64 a,.int .i64 e1,.int .i64 e2,.bool d] 56):=⟨_,rfl⟩
 rw[<-O] at B C I;have HW:=hid O;have L0:=oU l a e1;have S:(iy l a e1).length+1<=maxLen:=by unfold maxLen;omega
 have T:((iy l a e1).length+1)*32<=140737488355328:=oA;clear O;go_enter Tryz.func83,Tryz.ntmps83
 go_upto_region 1 with fail
 rw[<-HW.out];go_cut [5] (fun x wx=>∃m:List Ent,Hid (m=iy l a e1++[(a,e1,e2,d)])∧Hid (wx.ownsRow i.heap.size 56 4 x m.length (fx m))∧Hid (Below i.heap.size i wx))
 case first=>
  have f:=hid (aD i 1);have j:=hid (show ∀W,Below i.heap.size i W->W.cell? ⟨w.heap.size,0,none⟩=some (.int .i64 a)∧W.cell? ⟨w.heap.size,1,none⟩=some (.int .i64 e1)∧W.cell? ⟨w.heap.size,2,none⟩=some (.int .i64 e2)∧W.cell? ⟨w.heap.size,3,none⟩=some (.bool d) from fun W b=>by
   have y:w.heap.size<i.heap.size:=by have:=I.out;omega
   exact⟨(b.cell y).trans (C.out 0),(b.cell y).trans (C.out 1),(b.cell y).trans (C.out 2),(b.cell y).trans (C.out 3)⟩)
  go_region_held3 (fun W=>W.cell? ⟨w.heap.size,0,none⟩=some (.int .i64 a)∧W.cell? ⟨w.heap.size,1,none⟩=some (.int .i64 e1)∧W.cell? ⟨w.heap.size,2,none⟩=some (.int .i64 e2)∧W.cell? ⟨w.heap.size,3,none⟩=some (.bool d))
   (first
    |exact j _ A
    |exact j _ (bal e _)
    |exact j _ e
    |exact j _ (bal f _)
    |exact j _ f)
   (first
    |(refine gG rfl (.tmp 11) (.tmp 13) 31 rfl i.heap.size 56 i0 (.agg #[.int .i64 0,.int .i64 0,.int .i64 0,.bool false]) 4 32 Tryz.underlying31 hi J K L rfl oD _ _ _ rfl n ⟨_,0,none⟩ 1 1 [.int .i64 a,.int .i64 e1,.int .i64 e2,.bool d] rfl rfl N (fZ _ _ _ _) S T e.size ?_;intro P Q t s;have A:=hid (e.grown s e.size (fun k hk=>(n.lt k hk).1));have G:=hid t;clear t s)
    |(refine gG rfl (.tmp 11) (.tmp 13) 31 rfl i.heap.size 56 i0 (.agg #[.int .i64 0,.int .i64 0,.int .i64 0,.bool false]) 4 32 Tryz.underlying31 hi J K L rfl oD _ _ _ rfl (n.alloc _) ⟨_,0,none⟩ 1 1 [.int .i64 a,.int .i64 e1,.int .i64 e2,.bool d] rfl rfl (iq _ _ _ _ _ _) (fZ _ _ _ _) S T (bal e _).size ?_;intro P Q t s;have A:=hid ((bal e _).grown s (bal e _).size (fun k hk=>(n.lt k hk).1));have G:=hid t;clear t s)
    |(go_at_call 132;refine (iU v l a e1 _ (H.below (btr B f))).mono ?_;rintro r w1 ⟨u,rfl,q,b⟩;have e:=hid (btr f b);have n:=hid (ju q f.size);clear q b)
    |(go_at_call 132;refine (iU v l a e1 _ (H.below (btr B (bal f _)))).mono ?_;rintro r w1 ⟨u,rfl,q,b⟩;have e:=hid (btr (bal f _) b);have n:=hid (ju q (bal f _).size);have N:=hid (oo b);clear q b))
  all_goals (go_wp2_with fail;go_meet;exact⟨_,hid rfl,hid (by rw[gK,ax];exact G),A⟩)
 case rest=>
  obtain⟨m,F,M,z⟩:=hcut;have S1:=hid (show w.heap.size<wc.heap.size by have:=I.out;have:=z.size;omega);have D:=hid (fun o=>(z.cell (p:=⟨w.heap.size,o,none⟩) (by have:=I.out;simp only;omega)).trans (C.out o));have c1:=D.out 1;have R:=hid (btr B z)
  go_upto_if 17 with fail
  go_cut [5] (fun x wx=>∃m:List Ent,Hid (m=iy l a e1++[(a,e1,e2,d)])∧Hid (wx.ownsRow i.heap.size 56 4 x m.length (fx m))∧Hid (Below i.heap.size i wx))
  case first=>
   by_cases he:e1<0
   ·have N0:=oU l a (-1);have U:(iy l a (-1)).length+1<=maxLen:=by unfold maxLen;omega
    have V:((iy l a (-1)).length+1)*32<=140737488355328:=oA;go_wp2_with fail
    have f:=hid (aD wc 1);have j:=hid (show ∀W,Below wc.heap.size wc W->W.cell? ⟨w.heap.size,0,none⟩=some (.int .i64 a)∧W.cell? ⟨w.heap.size,1,none⟩=some (.int .i64 e1)∧W.cell? ⟨w.heap.size,2,none⟩=some (.int .i64 e2)∧W.cell? ⟨w.heap.size,3,none⟩=some (.bool d) from fun W b=>by
     have y:w.heap.size<wc.heap.size:=by have:=S1.out;omega
     exact⟨(b.cell y).trans (D.out 0),(b.cell y).trans (D.out 1),(b.cell y).trans (D.out 2),(b.cell y).trans (D.out 3)⟩)
    go_region_held3 (fun W=>W.cell? ⟨w.heap.size,0,none⟩=some (.int .i64 a)∧W.cell? ⟨w.heap.size,1,none⟩=some (.int .i64 e1)∧W.cell? ⟨w.heap.size,2,none⟩=some (.int .i64 e2)∧W.cell? ⟨w.heap.size,3,none⟩=some (.bool d))
     (first
      |exact j _ A
      |exact j _ (bal e _)
      |exact j _ e
      |exact j _ (bal f _)
      |exact j _ f)
     (first
      |(refine gG rfl (.tmp 21) (.tmp 23) 31 rfl wc.heap.size 56 i0 (.agg #[.int .i64 0,.int .i64 0,.int .i64 0,.bool false]) 4 32 Tryz.underlying31 hi J K L rfl oD _ _ _ rfl n ⟨_,0,none⟩ 1 1 [.int .i64 a,.int .i64 e1,.int .i64 e2,.bool d] rfl rfl N (fZ _ _ _ _) U V e.size ?_;intro P Q t s;have A:=hid (e.grown s e.size (fun k hk=>(n.lt k hk).1));have G:=hid t;clear t s)
      |(refine gG rfl (.tmp 21) (.tmp 23) 31 rfl wc.heap.size 56 i0 (.agg #[.int .i64 0,.int .i64 0,.int .i64 0,.bool false]) 4 32 Tryz.underlying31 hi J K L rfl oD _ _ _ rfl (n.alloc _) ⟨_,0,none⟩ 1 1 [.int .i64 a,.int .i64 e1,.int .i64 e2,.bool d] rfl rfl (iq _ _ _ _ _ _) (fZ _ _ _ _) U V (bal e _).size ?_;intro P Q t s;have A:=hid ((bal e _).grown s (bal e _).size (fun k hk=>(n.lt k hk).1));have G:=hid t;clear t s)
      |(go_at_call 132;refine (iU v l a (-1) _ (H.below (btr R f))).mono ?_;rintro r w1 ⟨u,rfl,q,b⟩;have e:=hid (btr f b);have n:=hid (ju q f.size);clear q b)
      |(go_at_call 132;refine (iU v l a (-1) _ (H.below (btr R (bal f _)))).mono ?_;rintro r w1 ⟨u,rfl,q,b⟩;have e:=hid (btr (bal f _) b);have n:=hid (ju q (bal f _).size);have N:=hid (oo b);clear q b))
    all_goals (go_wp2_with fail;go_meet;exact⟨iy l a (-1)++[(a,e1,e2,d)],hid (by rw[zc l a e1 he]),hid (by rw[gK,ax];exact ju G z.size),hid (btr z A)⟩)
   ·go_wp2_with fail
    go_meet
    exact⟨_,F,M,z⟩
  case rest=>
   obtain⟨m,F,M,z⟩:=hcut;have X:0<m.length:=by rw[F.out,ax];simp
   have af:m.length<=101:=by rw[F.out,ax];simp;omega
   obtain⟨g,cap,rfl,ad,hg,hE⟩:=Aa M X;have HR:=hid (show r5 l (a,e1,e2,d)=lU m by rw[F.out];rfl);have Z:=hid (show ∀c,(lU m).length<=c->iH w.heap.size wc (.slice (some ⟨g,(m.length - 4)*4,none⟩) (m.length - (m.length - 4)) c) (lU m) from fun c hc=>At X (aB B.size hg) hc (hE (m.length - 4) oA));have HF:=hid (btr B z);go_wp2_with fail
   go_loopw [5] (fun x wr=>∃k:Nat,k<=m.length - 4∧x=.slice (some ⟨g,k*4,none⟩) (m.length - k) (cap - k)∧Hid (wc=wr)) (fun x _=>HA x)
   case atStart=>exact⟨0,oA,oS,hid rfl⟩
   case round=>
    obtain⟨k,hk,rfl,aa⟩:=hrel;obtain rfl:=aa.out;by_cases ae:4<m.length - k
    ·have ab:4<((m.length - k:Nat):Int):=oA;have ac:m.length - k<=cap - k:=oA;have e1:k*4+4=(k+1)*4:=oA;have e2:m.length - k - 1=m.length - (k+1):=oA;have d:cap - k - 1=cap - (k+1):=oA;have E:=hid (show (Value.slice (some ⟨g,k*4+4,none⟩) (m.length - k - 1) (cap - k - 1))=Value.slice (some ⟨g,(k+1)*4,none⟩) (m.length - (k+1)) (cap - (k+1)) by rw[e1,e2,d]);clear e1 e2 d;go_wp2_with fail
     exact⟨⟨k+1,oA,E.out,hid trivial⟩,by simp only[HA];omega⟩
    ·obtain rfl:k=m.length - 4:=oA;have ab:¬4<((m.length - (m.length - 4):Nat):Int):=oA;go_wp2_with fail
     go_ret
     refine⟨_,rfl,?_,HF.out⟩;rw[HR.out];exact Z _ (by unfold lU;rw[eU];omega)
def pE (zs:List Int) (l:List Ent) (s a:Int):Ent×List Ent×Int:=
 if (jg l s (a/16)).2=true then ((jg l s (a/16)).1,l,0)
 else if (eu zs s a).2.2=0 then ((s,a/16,(eu zs s a).1,(eu zs s a).2.1),r5 l (s,a/16,(eu zs s a).1,(eu zs s a).2.1),0)
 else ((0,0,0,false),[],(eu zs s a).2.2)
theorem qQ {zs:List Int} {l:List Ent} {s a:Int} {e:Ent} (h:jg l s (a/16)=(e,true)):pE zs l s a=(e,l,0):=by
 unfold pE;rw[h,ah rfl]
theorem Bf {zs:List Int} {l:List Ent} {s a:Int} {e:Ent} {t k:Int} {b:Bool} (h:jg l s (a/16)=(e,false)) (c:eu zs s a=(t,b,k)) (hk:k≠0):pE zs l s a=((0,0,0,false),[],k):=by
 unfold pE;rw[h,ae Bool.false_ne_true,c,ae hk]
theorem xW {zs:List Int} {l:List Ent} {s a:Int} {e:Ent} {t:Int} {b:Bool} (h:jg l s (a/16)=(e,false)) (c:eu zs s a=(t,b,0)):pE zs l s a=((s,a/16,t,b),r5 l (s,a/16,t,b),0):=by
 unfold pE;rw[h,ae Bool.false_ne_true,c,ah rfl]
def lV (z a:Int):Int:=wrap64 (wrap64 (z*16)+a%16)
def iX (zs:List Int) (l:List Ent) (s a:Int) (wr:Bool):Int×List Ent×Int:=
 if ¬inb zs.length s a then (0,[],2)
 else if (pE zs l s a).2.2≠0 then (0,[],(pE zs l s a).2.2)
 else if wr=true∧(pE zs l s a).1.2.2.2=false then (0,[],4)
 else (lV (pE zs l s a).1.2.2.1 a,(pE zs l s a).2.1,0)
theorem uV {zs:List Int} {l:List Ent} {s a:Int} {wr:Bool} (h:¬inb zs.length s a):iX zs l s a wr=(0,[],2):=by
 unfold iX;rw[ah h]
theorem zM {zs:List Int} {l m:List Ent} {s a k:Int} {wr:Bool} {e:Ent} (h:inb zs.length s a) (b:pE zs l s a=(e,m,k)) (hk:k≠0):iX zs l s a wr=(0,[],k):=by
 unfold iX;rw[ae (fun c=>c h),b,ah hk]
theorem og {zs:List Int} {l m:List Ent} {s a x y z:Int} (h:inb zs.length s a) (b:pE zs l s a=((x,y,z,false),m,0)):iX zs l s a true=(0,[],4):=by
 unfold iX;rw[ae (fun c=>c h),b,ae (fun c=>c rfl),ah ⟨rfl,rfl⟩]
theorem pk {zs:List Int} {l m:List Ent} {s a x y z:Int} {wr b:Bool} (h:inb zs.length s a) (i:pE zs l s a=((x,y,z,b),m,0)) (g:wr=false∨b=true):iX zs l s a wr=(lV z a,m,0):=by
 unfold iX;rw[ae (fun c=>c h),i,ae (fun c=>c rfl),ae];rintro⟨f,d⟩;simp only at d;rcases g with e|e
 ·rw[e] at f;cases f
 ·rw[e] at d;cases d
theorem yC {zs:List Int} {s a:Int} (h:inb zs.length s a):(eu zs s a).2.2=0∨(eu zs s a).2.2=9:=by
 unfold eu;rw[ae (fun c=>c h)];split
 ·exact .inr rfl
 ·split
  ·exact .inr rfl
  ·exact .inl rfl
theorem oh (q v:Value) (zs:List Int) (l:List Ent) (s a:Int) (wr:Bool) (w:World) (K:Go.Proofs.YtaejnmmpddbbjaaGreatDoor.Wd.jW w q zs) (L:jk w v l):
  Calls Tryz.prog 46 #[q,v,.int .i64 s,.int .i64 a,.bool wr] w fun r w'=>∃u,r=.returned (.tuple #[.int .i64 (iX zs l s a wr).1,u,.int .i64 (iX zs l s a wr).2.2])∧((iX zs l s a wr).2.2=0->(u=v∧(iX zs l s a wr).2.1=l)∨iH w.heap.size w' u (iX zs l s a wr).2.1)∧Below w.heap.size w w':=by
 have B:=hid L;have E:=hid K;by_cases j:inb zs.length s a
 ·have e:=hid j;have a0:=j.2.2.2.2.1;have a1:=j.2.2.2.2.2;obtain⟨g,n⟩:∃g,eu zs s a=g:=⟨_,rfl⟩
  have o:=yC j;rw[n] at o;obtain⟨t,b,k⟩:=g;simp only at o;go_enter Tryz.func46,Tryz.ntmps46
  go_wp2_with fail
  refine (Go.Proofs.YtaejnmmpddbbjaaGreatDoor.Wd.lR q zs s a w E).mono ?_;rintro r w0 ⟨rfl,rfl⟩;rw[n];simp only;have M:(k==2)=false:=by rcases o with rfl|rfl<;>rfl
  go_wp2_with fail
  refine (wi v l s (a/16) w B).mono ?_;rintro r w1 ⟨rfl,D⟩;have G:=hid D;obtain⟨f,m⟩:∃f,jg l s (a/16)=f:=⟨_,rfl⟩
  rw[m];obtain⟨⟨x,y,z,u⟩,ok⟩:=f;unfold iJ;have d:=hid (bal G (.cells #[.int .i64 x,.int .i64 y,.int .i64 z,.bool u] 56))
  cases ok with
  |true=>
   have C:=hid (B.below d);have i:=qQ (zs:=zs) m
   cases wr with
   |false=>
    have c:=hid (pk (wr:=false) e i (Or.inl rfl));go_wp2_with fail
    refine ar (v:=.tuple #[.int .i64 (lV z a),v,.int .i64 0]) (by simp[lV,results,Tryz.results46,go_sem]) rfl ⟨v,by rw[c.out],fun _=>.inl ⟨rfl,by rw[c.out]⟩,d.out⟩
   |true=>
    cases u with
    |false=>
     have c:=hid (og e i);go_wp2_with fail
     refine ar (v:=.tuple #[.int .i64 0,.slice none 0 0,.int .i64 4]) (by simp[results,Tryz.results46,go_sem]) rfl ⟨_,by rw[c.out],fun h=>(by rw[c.out] at h;cases h),d.out⟩
    |true=>
     have c:=hid (pk (wr:=true) e i (Or.inr rfl));go_wp2_with fail
     refine ar (v:=.tuple #[.int .i64 (lV z a),v,.int .i64 0]) (by simp[lV,results,Tryz.results46,go_sem]) rfl ⟨v,by rw[c.out],fun _=>.inl ⟨rfl,by rw[c.out]⟩,d.out⟩
  |false=>
   rcases o with rfl|rfl
   ·have i:=xW m n;have C:=hid (B.below d);go_wp2_with fail
    generalize World.alloc _ _=I at d C ⊢;refine (uL v l s (a/16) t b I C).mono ?_;rintro r N ⟨p,rfl,J,D⟩;have F:=hid (J.low d.size);have A:=hid (btr d D)
    cases wr with
    |false=>
     have c:=hid (pk (wr:=false) e i (Or.inl rfl));go_wp2_with fail
     refine ar (v:=.tuple #[.int .i64 (lV t a),p,.int .i64 0]) (by simp[lV,results,Tryz.results46,go_sem]) rfl ⟨p,by rw[c.out],fun _=>.inr (by rw[c.out];exact F),A.out⟩
    |true=>
     cases b with
     |false=>
      have c:=hid (og e i);go_wp2_with fail
      refine ar (v:=.tuple #[.int .i64 0,.slice none 0 0,.int .i64 4]) (by simp[results,Tryz.results46,go_sem]) rfl ⟨_,by rw[c.out],fun h=>(by rw[c.out] at h;cases h),A.out⟩
     |true=>
      have c:=hid (pk (wr:=true) e i (Or.inr rfl));go_wp2_with fail
      refine ar (v:=.tuple #[.int .i64 (lV t a),p,.int .i64 0]) (by simp[lV,results,Tryz.results46,go_sem]) rfl ⟨p,by rw[c.out],fun _=>.inr (by rw[c.out];exact F),A.out⟩
   ·have c:=hid (zM (wr:=wr) e (Bf m n oD) oD);go_wp2_with fail
    refine ar (v:=.tuple #[.int .i64 0,.slice none 0 0,.int .i64 9]) (by simp[results,Tryz.results46,go_sem]) rfl ⟨_,by rw[c.out],fun h=>(by rw[c.out] at h;cases h),d.out⟩
 ·have c:=hid (uV (l:=l) (wr:=wr) j);have H:=hid (i9 j);go_enter Tryz.func46,Tryz.ntmps46
  go_wp2_with fail
  refine (Go.Proofs.YtaejnmmpddbbjaaGreatDoor.Wd.lR q zs s a w E).mono ?_;rintro r w0 ⟨rfl,rfl⟩;rw[H.out];go_wp2_with fail
  refine ar (v:=.tuple #[.int .i64 0,.slice none 0 0,.int .i64 2]) (by simp[results,Tryz.results46,go_sem]) rfl ⟨_,by rw[c.out],fun h=>(by rw[c.out] at h;cases h),ag _ _⟩
end Mmu
namespace Wd
open Go.RowKit Mem Bw Nums Mmu
theorem pM {p:PW} (i:Nat) (v:Int):(p.IE.set i v).length=p.IE.length:=au ..
theorem kS.set {p:PW} (h:kS p) {i:Nat} {v:Int} (hi:i<p.IE.length) (c:0<=v∧v<=65535) (b:beB p (p.k (i/16)) v=false):kS {p with IE:=p.IE.set i v}:=by
 refine⟨fun x d=>?_,fun j a=>?_⟩
 ·rcases aP d with g|g
  ·exact h.w x g
  ·rw[g];exact c
 ·have a:j<p.IE.length:=by rwa [pM] at a
  show beB {p with IE:=p.IE.set i v} (p.k (j/16)) ((p.IE.set i v).getD j 0)=false
  rw[dz hi];split
  ·rename_i e;rw[e];exact b
  ·exact h.e j a
theorem Lw.word {p:PW} (h:Lw p) {i:Nat} {v:Int} (hi:i<p.IE.length) (n:0<=v∧v<=65535) (g:beB p (p.k (i/16)) v=false) (d:p.k (i/16)=3∨p.k (i/16)=4->p.IE.getD i 0=0):Lw {p with IE:=p.IE.set i v}:=by
 obtain⟨r,q⟩:=h.m.keys;refine⟨⟨h.m.ks,h.m.ds,⟨r,q.to rfl rfl⟩,h.m.op,h.m.IE.set hi n g,h.m.tk.same (h.m.tk.lf.of (e4:=pM i v))⟩,fun l hl=>(h.tl l hl).Jk fun e o=>ry h.m.IE h.m.tk.lf (fun f a=>(lp (p:={p with IE:=p.IE.set i v}) (iS (p:=p) (by rw[a];decide))).trans (by show (p.k f==4)=true;rw[a];rfl)) (pM i v) (fun j b c=>?_) o,h.tm⟩;show (p.IE.set i v).getD j 0=_
 rw[dz hi,ae];intro e;rw[e] at b c;exact c (d b)
theorem Lv.word {p:PW} (h:Lv p) {i:Nat} {v:Int} (hi:i<p.IE.length) (c:0<=v∧v<=65535) (b:beB p (p.k (i/16)) v=false) (a:p.k (i/16)=3∨p.k (i/16)=4->p.IE.getD i 0=0):Sm p {p with IE:=p.IE.set i v}:=h.to (h.w.word hi c b a) rfl rfl rfl
theorem Lw.JH {p:PW} (h:Lw p) {i:Nat} (hi:i<p.IE.length):Lw (fwP {p with IE:=p.IE.set i 0} 0 (-1)):=by
 obtain⟨r,d⟩:=h.m.keys;have m:Md (fun _=>False) {p with IE:=p.IE.set i 0}:=⟨h.m.ks,h.m.ds,⟨r,d.to rfl rfl⟩,h.m.op,h.m.IE.set hi oD (gw.2 ⟨fun _=>.inl rfl,fun _=>.inl rfl⟩),h.m.tk.same (h.m.tk.lf.of (e4:=pM i 0))⟩;refine⟨m.ID oS,fun l hl=>?_,h.tm⟩;obtain⟨l0,b,rfl⟩:=List.mem_map.1 (show l∈p.ID.map _ from hl);refine (h.tl l0 b).filter fun e c a=>?_;have t:=(h.tl l0 b).t e c;unfold fi at t ⊢;unfold kpE at a;simp only[am,bH,bp] at t a ⊢;rw[show e.2.1*16=16*e.2.1 by omega];exact⟨⟨t.1.1,t.1.2⟩,a.1⟩
theorem Lv.JH {p:PW} (h:Lv p) {i:Nat} (hi:i<p.IE.length):Sm p (fwP {p with IE:=p.IE.set i 0} 0 (-1)):=h.to (h.w.JH hi) rfl rfl (by show (p.ID.map _).length=_;simp)
theorem Lw.has {p:PW} (h:Lw p) {t:Nat} (a:p.k t=6) {k:Nat} {v:Int} (hk:k≠9∧k≠10∧k≠14∧k≠17∧k≠18) (b:fOk p k v=true):Lw (p.task t k v):=h.tk (h.m.tk.Js a b hk.2.2.2.1 (.inr ⟨hk.1,hk.2.1,hk.2.2.1,hk.2.2.2.2⟩) (fun e=>absurd e hk.1)) ((dU p).task _ _ _)
theorem Lv.has {p:PW} (h:Lv p) {t:Nat} (a:p.k t=6) {k:Nat} {v:Int} (hk:k≠9∧k≠10∧k≠14∧k≠17∧k≠18) (b:fOk p k v=true):Sm p (p.task t k v):=h.rs (h.w.has a hk b) ((dU p).task _ _ _)
theorem Lv.Jn {p:PW} (h:Lv p) {t:Nat} (a:p.k t=6) {k:Nat} {v:Int} (hk:k<=8) (b:0<=v∧v<=65535):Sm p (p.task t k v):=h.rs (h.w.Jn a (.inl hk) b) ((dU p).task _ _ _)
theorem Lv.JU {p:PW} (h:Lv p) {c:Nat} {l:List Ent} (hl:TlO p l):Sm p {p with ID:=p.ID.set c l}:=by
 refine h.to ⟨h.w.m.ID oS,fun m b=>?_,h.w.tm⟩ rfl rfl oS;have k:∀m,TlO p m->TlO {p with ID:=p.ID.set c l} m:=fun m g=>g.Jk fun e a=>(jz (p:=p) (q:={p with ID:=p.ID.set c l}) rfl rfl e).trans a;rcases aP b with g|g
 ·exact k m (h.w.tl m g)
 ·rw[g];exact k l hl
theorem Lw.tick {p:PW} (h:Lw p):Lw {p with time:=p.time+1}:=by
 obtain⟨r,b⟩:=h.m.keys;exact⟨⟨h.m.ks,h.m.ds,⟨r,b.to rfl rfl⟩,h.m.op,⟨h.m.IE.w,h.m.IE.e⟩,h.m.tk.same h.m.tk.lf.of⟩,fun l hl=>(h.tl l hl).Jk fun e a=>(jz (p:=p) (q:={p with time:=p.time+1}) rfl rfl e).trans a,by show 0<=p.time+1;have:=h.tm;omega⟩
theorem yw {p:PW} (h:Lw p) {e:Ent} (l:fi p e=true):∃f:Nat,e.2.2.1=f∧p.k f=2:=by
 unfold fi at l;simp only[am,bH,bp] at l;obtain⟨⟨w,D⟩,⟨c,d⟩,_⟩:=l;obtain⟨s,q,B,r⟩:=fJ w;rw[q] at c d;generalize F:e.2.1*16=a at*;have lf:=h.m.tk.lf;unfold eu at c d;by_cases c1:¬inb p.IE.length s a
 ·rw[ah c1] at c;cases c
 rw[ae c1] at c d;by_cases c2:¬isE (e1 p.IE s a) (n16 p.IE)
 ·rw[ah c2] at c;cases c
 rw[ae c2] at c d;by_cases i:¬isE (e2 p.IE (e1 p.IE s a%1024) a) (n16 p.IE)
 ·rw[ah i] at c;cases c
 rw[ae i] at d;have E:0<=a∧a/256<=15:=oA;have o:¬isE 0 (n16 p.IE):=by unfold isE;omega
 have x:((s:Int)*16+a/256).toNat<p.IE.length:=by have:=lf.IE;omega
 have b1:=(gw.1 (h.m.IE.e _ x)).1 (by rw[show ((s:Int)*16+a/256).toNat/16=s by omega];exact r);obtain⟨t,n,C,v⟩:=fJ (b1.resolve_left fun y=>c2 (by unfold e1;rw[y];exact o));have n:e1 p.IE s a - 32768=t:=n;have k2:=lf.k2;have A:e1 p.IE s a%1024=t:=oA;rw[A] at d i;have z:((t:Int)*16+a/16%16).toNat<p.IE.length:=by have:=lf.IE;omega
 have b2:=(gw.1 (h.m.IE.e _ z)).2 (by rw[show ((t:Int)*16+a/16%16).toNat/16=t by omega];exact v);have d:=d;rcases b2.resolve_left fun y=>i (by unfold e2;rw[y];exact o) with b|b
 ·obtain⟨f,g,u,j⟩:=fJ b;have g:e2 p.IE t a - 32768=f:=g;exact⟨f,oA,j⟩
 ·obtain⟨f,g,u,j⟩:=fJ b;have g:e2 p.IE t a - 32768 - 16384=f:=g;exact⟨f,oA,j⟩
theorem Bs {z:Int} (a:0<=z) (b:z<=100000):wrap64 z=z:=by unfold wrap64;omega
theorem DC (zs:List Int) (s a:Int) (e:0<=a∧a<4096):eu zs s (a/16*16)=eu zs s a:=by
 have b:e1 zs s (a/16*16)=e1 zs s a:=by unfold e1;rw[show a/16*16/256=a/256 by omega]
 have d:∀t,e2 zs t (a/16*16)=e2 zs t a:=fun t=>by unfold e2;rw[show a/16*16/16%16=a/16%16 by omega]
 have hi:inb zs.length s (a/16*16)↔inb zs.length s a:=by unfold inb;omega
 unfold eu;rw[b,d];by_cases c:inb zs.length s a
 ·rw[ae (not_not_intro (hi.2 c)),ae (not_not_intro c)]
 ·rw[ah (fun y=>c (hi.1 y)),ah c]
theorem TlO.fill {p:PW} {l:List Ent} (h:TlO p l) {e:Ent} (a:fi p e=true):TlO p (r5 l e):=by
 have f:∀x∈r5 l e,x=e∨x∈iy l e.1 e.2.1:=fun x b=>by
  have:=List.mem_of_mem_drop b;rw[dA,cG] at this;exact this.symm
 refine⟨qy _,fun x b=>?_,?_⟩
 ·rcases f x b with g|g
  ·rw[g];exact a
  ·exact h.t x (List.mem_filter.1 g).1
 ·unfold r5 lU;refine List.Pairwise.drop ?_;rw[List.pairwise_append];refine⟨h.d.filter _,List.pairwise_singleton _ _,fun x b y c=>?_⟩;rw[cG] at c;rw[c];have:=(List.mem_filter.1 b).2;obtain⟨_,i,_⟩:=(show isB p e.1 4=true∧(0<=e.2.1∧e.2.1<=255)∧True from by
   unfold fi at a;simp only[am,bp] at a;exact⟨a.1.1,a.1.2,trivial⟩)
  unfold lX at this;unfold pg;have j:=i.1;simp[j] at this ⊢;omega
theorem wV {p:PW} (h:Lw p) {l:List Ent} (hl:TlO p l) {s a:Int} {wr:Bool} (j:fG p s 4=true) (c:(iX p.IE l s a wr).2.2=0):
  TlO p (iX p.IE l s a wr).2.1∧∃f:Nat,p.k f=2∧(iX p.IE l s a wr).1=f*16+a%16∧0<=a:=by
 unfold iX at c ⊢;by_cases c1:¬inb p.IE.length s a
 ·rw[ah c1] at c;cases c
 rw[ae c1] at c ⊢;have c1:=Decidable.not_not.1 c1;have o:0<=a∧a<4096:=⟨c1.2.2.2.2.1,c1.2.2.2.2.2⟩;by_cases c2:(pE p.IE l s a).2.2≠0
 ·rw[ah c2] at c;exact absurd c c2
 rw[ae c2] at c ⊢;have c2:=Decidable.not_not.1 c2;by_cases n:wr=true∧(pE p.IE l s a).1.2.2.2=false
 ·rw[ah n] at c;cases c
 rw[ae n];have key:TlO p (pE p.IE l s a).2.1∧fi p (pE p.IE l s a).1=true:=by
  obtain⟨f,d⟩:∃f,jg l s (a/16)=f:=⟨_,rfl⟩
  obtain⟨e,ok⟩:=f
  cases ok with
  |true=>
   rw[qQ d];refine⟨hl,hl.t e ?_⟩;unfold jg at d;split at d
   ·rename_i hlt;injection d with g _
    rw[<-g];exact av hlt
   ·injection d with _ g
    cases g
  |false=>
   obtain⟨g,i⟩:∃g,eu p.IE s a=g:=⟨_,rfl⟩
   obtain⟨t,b,k⟩:=g;by_cases hk:k=0
   ·subst hk;rw[xW d i];have q:fi p (s,a/16,t,b)=true:=by
     unfold fi;have v:isB p s 4=true:=by
      unfold fG at j;rw[cJ] at j;exact j.resolve_left fun e=>by have:=eq_of_beq e;have:=c1.2.2.1;omega
     show (isB p s 4&&decide (0<=a/16∧a/16<=255)&&((eu p.IE s (a/16*16)).2.2==0&&(eu p.IE s (a/16*16)).1==t&&(eu p.IE s (a/16*16)).2.1==b))=true
     rw[DC _ _ _ o,i,v,aA oA];simp
    exact⟨hl.fill q,q⟩
   ·rw[Bf d i hk] at c2;exact absurd c2 hk
 refine⟨key.1,?_⟩;obtain⟨f,r,u⟩:=yw h key.2;have w:=iS (p:=p) (f:=f) oA;have k2:=h.m.tk.lf.k2;refine⟨f,u,?_,o.1⟩;show lV (pE p.IE l s a).1.2.2.1 a=_
 rw[r];unfold lV;rw[Bs (z:=(f:Int)*16) oA oA,Bs oA oA]
