/- Qbf -/
import Derived.Maps.AppendAt
import Derived.Deep.RegionHeld3
import Derived.BigQuiet
import Derived.Test.YtaejnmmpddbbjaaGreatDoorQbe
namespace Go.Proofs.YtaejnmmpddbbjaaGreatDoor.Mmu
open Go.RowKit Mem Bw Nums
-- from MmuClone.tpl
theorem own_lower {w:World} {B a e size n:Nat} {v:Value} {xs:List Value} (h:w.ownsRow B e size v n xs) (hB:a≤B):w.ownsRow a e size v n xs:=by
 refine⟨h.1,?_⟩;rcases h.2 with b|⟨g,cap,c,d,b,f⟩
 ·exact .inl b
 ·exact .inr ⟨g,cap,c,d,by omega,f⟩
theorem step_append_own {P:Program} {ops:Array Oper} {o:Oper} {a:Act} {w:World} {K:Act→World→Prop} {Q:Exit→Act→World→Prop} {E:Prop}
  (D:o.guard=none) (s x:Operand) (t:TypeId) (G:o.op=Op.call {callee:=Callee.builtin Builtin.append,args:=#[s,x],argTypes:=#[t,t]})
  (B:Nat) (e:TypeId) (i:TypeInfo) (z:Value) (size bytes:Nat) (g:P.underlying t=some (.slice e)) (k:P.info? e=some i) (l:i.zero=some z) (p:i.size=size) (q:i.bytes=bytes) (r:z.cells.size=size) (y:0<size)
  (v:Value) (n:Nat) (xs:List Value) (J:a.eval s=v) (H:w.ownsRow B e size v n xs)
  (f:Addr) (m c:Nat) (b:List Value) (M:a.eval x=.slice (some f) m c) (F:b.length=m*size) (C:∀j u,b[j]? =some u→w.cell? (f.add j)=some u) (h:∀u∈b,u.oneCell'=true)
  (b1:n+m≤maxLen) (b2:(n+m)*bytes≤140737488355328) (hB:B≤w.heap.size)
  (A:∀d w',w'.ownsRow B e size d (n+m) (xs++b)→w.grownBy w' v.ownBlock→K (a.put o.dst d) w'):
  if Region.wanted o (yielded ops a.tmps)=true then Oper.wp P o a w K Q else E:=by
 have L:Region.wanted o (yielded ops a.tmps)=true:=by simp[Region.wanted,D]
 rw[ag L];obtain⟨d,w',I,N,O,_⟩:=run_append_own (P:=P) w B t o.type e i z size bytes g k l p q r y v n xs H f m c b F C h b1 b2 hB;unfold Oper.wp;simp[execOp,G,resolve,invoke,builtin,J,M,I,Result.andThen];exact A d w' N O
def last4 (l:List Ent):List Ent:=l.drop (l.length - 4)
def fillR (l:List Ent) (e:Ent):List Ent:=last4 (dropR l e.1 e.2.1++[e])
theorem last4_len (l:List Ent):(last4 l).length≤4:=by
 unfold last4;rw[dL];omega
theorem drop_neg (l:List Ent) (s p:Int) (h:p<0):dropR l s (-1)=dropR l s p:=by
 unfold dropR
 congr 1
 funext e
 have:¬(0≤p):=by omega
 simp[stays,this]
def TlbNew (B:Nat) (w:World) (v:Value) (l:List Ent):Prop:=∃q b off cap,v=.slice q l.length cap∧(0<l.length∧q=some ⟨b,off,none⟩)∧EntsAt w b off l∧l.length≤100∧B≤b∧l.length≤cap
theorem TlbNew.low {B a:Nat} {w:World} {v:Value} {l:List Ent} (h:TlbNew B w v l) (hB:a≤B):TlbNew a w v l:=by
 obtain⟨q,b,off,cap,c,d,e,f,g,i⟩:=h;exact⟨q,b,off,cap,c,d,e,f,aD hB g,i⟩
theorem own_tail {w:World} {B:Nat} {v:Value} {m:List Ent} (h:w.ownsRow B 56 4 v m.length (cellsE m)) (l:0<m.length):
  ∃g cap,v=.slice (some ⟨g,0,none⟩) m.length cap∧m.length≤cap∧B≤g∧∀k,k≤m.length→EntsAt w g (k*4) (m.drop k):=by
 rcases h.2 with ⟨rfl,a⟩|⟨g,cap,i,rfl,a,n,d,_⟩
 ·omega
 ·refine⟨g,cap,rfl,d,a,fun k hk j e=>?_⟩;rw[dL] at e;have f:k+j<m.length:=by omega
  obtain⟨b,e1,e2,c⟩:=cellsE_at m (k+j) f;rw[show k*4+j*4=(k+j)*4 by omega,List.getElem_drop];rw[h.cellAt ((k+j)*4) (by omega),h.cellAt ((k+j)*4+1) (by omega),h.cellAt ((k+j)*4+2) (by omega),h.cellAt ((k+j)*4+3) (by omega)];exact⟨b,e1,e2,c⟩
theorem tlb_tail {w:World} {B g cap:Nat} {m:List Ent} (b:0<m.length) (hB:B≤g) (a:(last4 m).length≤cap) (h:EntsAt w g ((m.length - 4)*4) (m.drop (m.length - 4))):TlbNew B w (.slice (some ⟨g,(m.length - 4)*4,none⟩) (m.length - (m.length - 4)) cap) (last4 m):=by
 refine⟨some ⟨g,(m.length - 4)*4,none⟩,g,(m.length - 4)*4,cap,?_,⟨by unfold last4;rw[dL];omega,rfl⟩,h,aD (last4_len m) (by decide),hB,a⟩;unfold last4;rw[dL]
theorem news_below {W w1:World} {a b c d:Value} {e:TypeId} (f:Below (W.alloc (.cells #[a,b,c,d] e)).heap.size (W.alloc (.cells #[a,b,c,d] e)) w1):∀(j:Nat) (x:Value),[a,b,c,d][j]? =some x→w1.cell? ((⟨W.heap.size,0,none⟩:Addr).add j)=some x:=by
 intro j x h;have:=fourE_new W a b c d e j x h;rw[add_none] at this ⊢;exact (f.cell (al _ _ this)).trans this
def lenS:Value→Nat
 | .slice _ n _=>n
 |_=>0
set_option maxRecDepth 100000
set_option maxHeartbeats 16000000
theorem filled_any (v:Value) (l:List Ent) (a:Int) (e1:Int) (e2:Int) (d:Bool) (w:World) (Q:TlbIn w v l):
  Calls Tryz.prog 83 #[v,.agg #[.int .i64 a,.int .i64 e1,.int .i64 e2,.bool d]] w fun r w'=>∃u,r=.returned u∧TlbNew w.heap.size w' u (fillR l (a,e1,e2,d))∧Below w.heap.size w w':=by
 obtain⟨i0,hi,K,L,M⟩:=info_get infoEnt;have hl:l.length≤100:=by obtain⟨_,_,_,_,_,_,_,h⟩:=Q;exact h
 have I:=hid Q;clear Q;have C:=hid (bal (aj w.heap.size w) (.cells #[.int .i64 a,.int .i64 e1,.int .i64 e2,.bool d] 56));have D:=hid (cJ w #[.int .i64 a,.int .i64 e1,.int .i64 e2,.bool d] 56);have J:=hid (show (w.alloc (.cells #[.int .i64 a,.int .i64 e1,.int .i64 e2,.bool d] 56)).heap.size=w.heap.size+1 by simp);obtain⟨i,P⟩:∃W,W=w.alloc (.cells #[.int .i64 a,.int .i64 e1,.int .i64 e2,.bool d] 56):=⟨_,rfl⟩
 rw[←P] at C D J;have HW:=hid P;have L0:=drop_len l a e1;have T:(dropR l a e1).length+1≤maxLen:=by unfold maxLen;omega
 have U:((dropR l a e1).length+1)*32≤140737488355328:=by omega
 clear P;go_enter Tryz.func83,Tryz.ntmps83
 go_upto_region 1 with fail
 rw[←HW.out];go_cut [5] (fun x wx=>∃m:List Ent,Hid (m=dropR l a e1++[(a,e1,e2,d)])∧Hid (wx.ownsRow i.heap.size 56 4 x m.length (cellsE m))∧Hid (Below i.heap.size i wx))
 case first=>
  have f:=hid (aA i 1);have j:=hid (show ∀W,Below i.heap.size i W→W.cell? ⟨w.heap.size,0,none⟩=some (.int .i64 a)∧W.cell? ⟨w.heap.size,1,none⟩=some (.int .i64 e1)∧W.cell? ⟨w.heap.size,2,none⟩=some (.int .i64 e2)∧W.cell? ⟨w.heap.size,3,none⟩=some (.bool d) from fun W b=>by
   have z:w.heap.size<i.heap.size:=by have:=J.out;omega
   exact⟨(b.cell z).trans (D.out 0),(b.cell z).trans (D.out 1),(b.cell z).trans (D.out 2),(b.cell z).trans (D.out 3)⟩)
  go_region_held3 (fun W=>W.cell? ⟨w.heap.size,0,none⟩=some (.int .i64 a)∧W.cell? ⟨w.heap.size,1,none⟩=some (.int .i64 e1)∧W.cell? ⟨w.heap.size,2,none⟩=some (.int .i64 e2)∧W.cell? ⟨w.heap.size,3,none⟩=some (.bool d))
   (first
    |exact j _ A
    |exact j _ (bal e _)
    |exact j _ e
    |exact j _ (bal f _)
    |exact j _ f)
   (first
    |(refine step_append_own rfl (.tmp 11) (.tmp 13) 31 rfl i.heap.size 56 i0 (.agg #[.int .i64 0,.int .i64 0,.int .i64 0,.bool false]) 4 32 Tryz.underlying31 hi K L M rfl (by decide) _ _ _ rfl n ⟨_,0,none⟩ 1 1 [.int .i64 a,.int .i64 e1,.int .i64 e2,.bool d] rfl rfl O (fourE_cell _ _ _ _) T U e.size ?_;intro R S t s;have A:=hid (e.grown s e.size (fun k hk=>(n.lt k hk).1));have H:=hid t;clear t s)
    |(refine step_append_own rfl (.tmp 11) (.tmp 13) 31 rfl i.heap.size 56 i0 (.agg #[.int .i64 0,.int .i64 0,.int .i64 0,.bool false]) 4 32 Tryz.underlying31 hi K L M rfl (by decide) _ _ _ rfl (n.alloc _) ⟨_,0,none⟩ 1 1 [.int .i64 a,.int .i64 e1,.int .i64 e2,.bool d] rfl rfl (fourE_new _ _ _ _ _ _) (fourE_cell _ _ _ _) T U (bal e _).size ?_;intro R S t s;have A:=hid ((bal e _).grown s (bal e _).size (fun k hk=>(n.lt k hk).1));have H:=hid t;clear t s)
    |(go_at_call 132;refine (dropped_any v l a e1 _ (I.below (btr C f))).mono ?_;rintro r w1 ⟨u,rfl,q,b⟩;have e:=hid (btr f b);have n:=hid (own_lower q f.size);clear q b)
    |(go_at_call 132;refine (dropped_any v l a e1 _ (I.below (btr C (bal f _)))).mono ?_;rintro r w1 ⟨u,rfl,q,b⟩;have e:=hid (btr (bal f _) b);have n:=hid (own_lower q (bal f _).size);have O:=hid (news_below b);clear q b))
  all_goals (go_wp2_with fail;go_meet;exact⟨_,hid rfl,hid (by rw[cellsE_snoc,av];exact H),A⟩)
 case rest=>
  obtain⟨m,B,G,y⟩:=hcut;have Y:=hid (show w.heap.size<wc.heap.size by have:=J.out;have:=y.size;omega);have F:=hid (fun o=>(y.cell (p:=⟨w.heap.size,o,none⟩) (by have:=J.out;simp only;omega)).trans (D.out o));have c1:wc.cell? ⟨w.heap.size,1,none⟩=some (.int .i64 e1):=F.out 1;have N:=hid (btr C y)
  go_upto_if 17 with fail
  go_cut [5] (fun x wx=>∃m:List Ent,Hid (m=dropR l a e1++[(a,e1,e2,d)])∧Hid (wx.ownsRow i.heap.size 56 4 x m.length (cellsE m))∧Hid (Below i.heap.size i wx))
  case first=>
   by_cases he:e1<0
   ·have N0:=drop_len l a (-1);have V:(dropR l a (-1)).length+1≤maxLen:=by unfold maxLen;omega
    have X:((dropR l a (-1)).length+1)*32≤140737488355328:=by omega
    go_wp2_with fail
    have f:=hid (aA wc 1);have j:=hid (show ∀W,Below wc.heap.size wc W→W.cell? ⟨w.heap.size,0,none⟩=some (.int .i64 a)∧W.cell? ⟨w.heap.size,1,none⟩=some (.int .i64 e1)∧W.cell? ⟨w.heap.size,2,none⟩=some (.int .i64 e2)∧W.cell? ⟨w.heap.size,3,none⟩=some (.bool d) from fun W b=>by
     have z:w.heap.size<wc.heap.size:=by have:=Y.out;omega
     exact⟨(b.cell z).trans (F.out 0),(b.cell z).trans (F.out 1),(b.cell z).trans (F.out 2),(b.cell z).trans (F.out 3)⟩)
    go_region_held3 (fun W=>W.cell? ⟨w.heap.size,0,none⟩=some (.int .i64 a)∧W.cell? ⟨w.heap.size,1,none⟩=some (.int .i64 e1)∧W.cell? ⟨w.heap.size,2,none⟩=some (.int .i64 e2)∧W.cell? ⟨w.heap.size,3,none⟩=some (.bool d))
     (first
      |exact j _ A
      |exact j _ (bal e _)
      |exact j _ e
      |exact j _ (bal f _)
      |exact j _ f)
     (first
      |(refine step_append_own rfl (.tmp 21) (.tmp 23) 31 rfl wc.heap.size 56 i0 (.agg #[.int .i64 0,.int .i64 0,.int .i64 0,.bool false]) 4 32 Tryz.underlying31 hi K L M rfl (by decide) _ _ _ rfl n ⟨_,0,none⟩ 1 1 [.int .i64 a,.int .i64 e1,.int .i64 e2,.bool d] rfl rfl O (fourE_cell _ _ _ _) V X e.size ?_;intro R S t s;have A:=hid (e.grown s e.size (fun k hk=>(n.lt k hk).1));have H:=hid t;clear t s)
      |(refine step_append_own rfl (.tmp 21) (.tmp 23) 31 rfl wc.heap.size 56 i0 (.agg #[.int .i64 0,.int .i64 0,.int .i64 0,.bool false]) 4 32 Tryz.underlying31 hi K L M rfl (by decide) _ _ _ rfl (n.alloc _) ⟨_,0,none⟩ 1 1 [.int .i64 a,.int .i64 e1,.int .i64 e2,.bool d] rfl rfl (fourE_new _ _ _ _ _ _) (fourE_cell _ _ _ _) V X (bal e _).size ?_;intro R S t s;have A:=hid ((bal e _).grown s (bal e _).size (fun k hk=>(n.lt k hk).1));have H:=hid t;clear t s)
      |(go_at_call 132;refine (dropped_any v l a (-1) _ (I.below (btr N f))).mono ?_;rintro r w1 ⟨u,rfl,q,b⟩;have e:=hid (btr f b);have n:=hid (own_lower q f.size);clear q b)
      |(go_at_call 132;refine (dropped_any v l a (-1) _ (I.below (btr N (bal f _)))).mono ?_;rintro r w1 ⟨u,rfl,q,b⟩;have e:=hid (btr (bal f _) b);have n:=hid (own_lower q (bal f _).size);have O:=hid (news_below b);clear q b))
    all_goals (go_wp2_with fail;go_meet;exact⟨dropR l a (-1)++[(a,e1,e2,d)],hid (by rw[drop_neg l a e1 he]),hid (by rw[cellsE_snoc,av];exact own_lower H y.size),hid (btr y A)⟩)
   ·go_wp2_with fail
    go_meet
    exact⟨_,B,G,y⟩
  case rest=>
   clear B G y N F Y c1 m;obtain⟨m,B,G,y⟩:=hcut;have ab:0<m.length:=by rw[B.out,av];simp
   have ag:m.length≤101:=by rw[B.out,av];simp;omega
   obtain⟨g,cap,rfl,ae,hg,Z⟩:=own_tail G ab;have HR:=hid (show fillR l (a,e1,e2,d)=last4 m by rw[B.out];rfl);have HE:=hid (show ∀c,(last4 m).length≤c→TlbNew w.heap.size wc (.slice (some ⟨g,(m.length - 4)*4,none⟩) (m.length - (m.length - 4)) c) (last4 m) from fun c hc=>tlb_tail ab (aD C.size hg) hc (Z (m.length - 4) (by omega)));have HF:=hid (btr C y);clear Z B G y hg;go_wp2_with fail
   go_loopw [5] (fun x wr=>∃k:Nat,k≤m.length - 4∧x=.slice (some ⟨g,k*4,none⟩) (m.length - k) (cap - k)∧Hid (wc=wr)) (fun x _=>lenS x)
   case atStart=>exact⟨0,by omega,by simp,hid rfl⟩
   case round=>
    obtain⟨k,hk,rfl,aa⟩:=hrel;obtain rfl:=aa.out;clear aa;by_cases af:4<m.length - k
    ·have ac:4<((m.length - k:Nat):Int):=by omega
     have ad:m.length - k≤cap - k:=by omega
     have e1:k*4+4=(k+1)*4:=by omega
     have e2:m.length - k - 1=m.length - (k+1):=by omega
     have d:cap - k - 1=cap - (k+1):=by omega
     have E:=hid (show (Value.slice (some ⟨g,k*4+4,none⟩) (m.length - k - 1) (cap - k - 1))=Value.slice (some ⟨g,(k+1)*4,none⟩) (m.length - (k+1)) (cap - (k+1)) by rw[e1,e2,d]);clear e1 e2 d;go_wp2_with fail
     exact⟨⟨k+1,by omega,E.out,hid trivial⟩,by simp only[lenS];omega⟩
    ·obtain rfl:k=m.length - 4:=by omega
     have ac:¬4<((m.length - (m.length - 4):Nat):Int):=by omega
     go_wp2_with fail
     go_ret
     refine⟨_,rfl,?_,HF.out⟩;rw[HR.out];exact HE _ (by unfold last4;rw[dL];omega)
set_option maxRecDepth 512
set_option maxHeartbeats 200000
def recR (zs:List Int) (l:List Ent) (s a:Int):Ent×List Ent×Int:=
 if (findR l s (a/16)).2=true then ((findR l s (a/16)).1,l,0)
 else if (walkR zs s a).2.2=0 then ((s,a/16,(walkR zs s a).1,(walkR zs s a).2.1),fillR l (s,a/16,(walkR zs s a).1,(walkR zs s a).2.1),0)
 else ((0,0,0,false),[],(walkR zs s a).2.2)
theorem tlb_nil (w:World):TlbIn w (.slice none 0 0) []:=⟨none,0,0,0,rfl,fun e=>by simp at e,fun j a=>by simp at a,by simp⟩
theorem rec_found {zs:List Int} {l:List Ent} {s a:Int} {e:Ent} (h:findR l s (a/16)=(e,true)):recR zs l s a=(e,l,0):=by
 unfold recR;rw[h,ag rfl]
theorem rec_no {zs:List Int} {l:List Ent} {s a:Int} {e:Ent} {t k:Int} {b:Bool} (h:findR l s (a/16)=(e,false)) (c:walkR zs s a=(t,b,k)) (hk:k≠0):recR zs l s a=((0,0,0,false),[],k):=by
 unfold recR;rw[h,ae Bool.false_ne_true,c,ae hk]
theorem rec_yes {zs:List Int} {l:List Ent} {s a:Int} {e:Ent} {t:Int} {b:Bool} (h:findR l s (a/16)=(e,false)) (c:walkR zs s a=(t,b,0)):recR zs l s a=((s,a/16,t,b),fillR l (s,a/16,t,b),0):=by
 unfold recR;rw[h,ae Bool.false_ne_true,c,ag rfl]
def lookV (z a:Int):Int:=wrap64 (wrap64 (z*16)+a%16)
def lookR (zs:List Int) (l:List Ent) (s a:Int) (wr:Bool):Int×List Ent×Int:=
 if ¬inb zs.length s a then (0,[],2)
 else if (recR zs l s a).2.2≠0 then (0,[],(recR zs l s a).2.2)
 else if wr=true∧(recR zs l s a).1.2.2.2=false then (0,[],4)
 else (lookV (recR zs l s a).1.2.2.1 a,(recR zs l s a).2.1,0)
theorem look_range {zs:List Int} {l:List Ent} {s a:Int} {wr:Bool} (h:¬inb zs.length s a):lookR zs l s a wr=(0,[],2):=by
 unfold lookR;rw[ag h]
theorem look_err {zs:List Int} {l m:List Ent} {s a k:Int} {wr:Bool} {e:Ent} (h:inb zs.length s a) (b:recR zs l s a=(e,m,k)) (hk:k≠0):lookR zs l s a wr=(0,[],k):=by
 unfold lookR;rw[ae (fun c=>c h),b,ag hk]
theorem look_right {zs:List Int} {l m:List Ent} {s a x y z:Int} (h:inb zs.length s a) (b:recR zs l s a=((x,y,z,false),m,0)):lookR zs l s a true=(0,[],4):=by
 unfold lookR;rw[ae (fun c=>c h),b,ae (fun c=>c rfl),ag ⟨rfl,rfl⟩]
theorem look_ok {zs:List Int} {l m:List Ent} {s a x y z:Int} {wr b:Bool} (h:inb zs.length s a) (i:recR zs l s a=((x,y,z,b),m,0)) (g:wr=false∨b=true):lookR zs l s a wr=(lookV z a,m,0):=by
 unfold lookR;rw[ae (fun c=>c h),i,ae (fun c=>c rfl),ae];rintro⟨f,d⟩;simp only at d;rcases g with e|e
 ·rw[e] at f;cases f
 ·rw[e] at d;cases d
theorem walk_said {zs:List Int} {s a:Int} (h:inb zs.length s a):(walkR zs s a).2.2=0∨(walkR zs s a).2.2=9:=by
 unfold walkR;rw[ae (fun c=>c h)];split
 ·exact .inr rfl
 ·split
  ·exact .inr rfl
  ·exact .inl rfl
set_option maxRecDepth 100000
set_option maxHeartbeats 1000000
theorem looked_any (B v:Value) (zs:List Int) (l:List Ent) (s a:Int) (wr:Bool) (w:World) (H:Go.Proofs.YtaejnmmpddbbjaaGreatDoor.Wd.RamIn w B zs) (I:TlbIn w v l):
  Calls Tryz.prog 46 #[B,v,.int .i64 s,.int .i64 a,.bool wr] w fun r w'=>∃u,r=.returned (.tuple #[.int .i64 (lookR zs l s a wr).1,u,.int .i64 (lookR zs l s a wr).2.2])∧((lookR zs l s a wr).2.2=0→(u=v∧(lookR zs l s a wr).2.1=l)∨TlbNew w.heap.size w' u (lookR zs l s a wr).2.1)∧Below w.heap.size w w':=by
 have D:=hid I;have E:=hid H;clear I H;by_cases i:inb zs.length s a
 ·have j:=hid i;have a0:=i.2.2.2.2.1;have a1:=i.2.2.2.2.2;obtain⟨g,n⟩:∃g,walkR zs s a=g:=⟨_,rfl⟩
  have p:=walk_said i;rw[n] at p;obtain⟨t,b,k⟩:=g;simp only at p;clear i;go_enter Tryz.func46,Tryz.ntmps46
  go_wp2_with fail
  refine (Go.Proofs.YtaejnmmpddbbjaaGreatDoor.Wd.walked_any_o B zs s a w E).mono ?_;rintro r w0 ⟨rfl,rfl⟩;rw[n];simp only;have M:(k==2)=false:=by rcases p with rfl|rfl<;>rfl
  go_wp2_with fail
  refine (found_any v l s (a/16) w D).mono ?_;rintro r w1 ⟨rfl,o⟩;have J:=hid o;clear o;obtain⟨f,m⟩:∃f,findR l s (a/16)=f:=⟨_,rfl⟩
  rw[m];obtain⟨⟨x,y,z,u⟩,ok⟩:=f;unfold foundV;have e:=hid (bal J (.cells #[.int .i64 x,.int .i64 y,.int .i64 z,.bool u] 56))
  cases ok with
  |true=>
   have q:=hid (D.below e);have d:=rec_found (zs:=zs) m;clear m p n
   cases wr with
   |false=>
    have c:=hid (look_ok (wr:=false) j d (Or.inl rfl));clear d;go_wp2_with fail
    refine aq (v:=.tuple #[.int .i64 (lookV z a),v,.int .i64 0]) (by simp[lookV,results,Tryz.results46,go_sem]) rfl ⟨v,by rw[c.out],fun _=>.inl ⟨rfl,by rw[c.out]⟩,e.out⟩
   |true=>
    cases u with
    |false=>
     have c:=hid (look_right j d);clear d;go_wp2_with fail
     refine aq (v:=.tuple #[.int .i64 0,.slice none 0 0,.int .i64 4]) (by simp[results,Tryz.results46,go_sem]) rfl ⟨_,by rw[c.out],fun h=>(by rw[c.out] at h;cases h),e.out⟩
    |true=>
     have c:=hid (look_ok (wr:=true) j d (Or.inr rfl));clear d;go_wp2_with fail
     refine aq (v:=.tuple #[.int .i64 (lookV z a),v,.int .i64 0]) (by simp[lookV,results,Tryz.results46,go_sem]) rfl ⟨v,by rw[c.out],fun _=>.inl ⟨rfl,by rw[c.out]⟩,e.out⟩
  |false=>
   rcases p with rfl|rfl
   ·have d:=rec_yes m n;clear m n;have q:=hid (D.below e);go_wp2_with fail
    generalize World.alloc _ _=L at e q ⊢;refine (filled_any v l s (a/16) t b L q).mono ?_;rintro r N ⟨A,rfl,G,o⟩;have F:=hid (G.low e.size);have C:=hid (btr e o);clear G o q
    cases wr with
    |false=>
     have c:=hid (look_ok (wr:=false) j d (Or.inl rfl));clear d;go_wp2_with fail
     refine aq (v:=.tuple #[.int .i64 (lookV t a),A,.int .i64 0]) (by simp[lookV,results,Tryz.results46,go_sem]) rfl ⟨A,by rw[c.out],fun _=>.inr (by rw[c.out];exact F),C.out⟩
    |true=>
     cases b with
     |false=>
      have c:=hid (look_right j d);clear d;go_wp2_with fail
      refine aq (v:=.tuple #[.int .i64 0,.slice none 0 0,.int .i64 4]) (by simp[results,Tryz.results46,go_sem]) rfl ⟨_,by rw[c.out],fun h=>(by rw[c.out] at h;cases h),C.out⟩
     |true=>
      have c:=hid (look_ok (wr:=true) j d (Or.inr rfl));clear d;go_wp2_with fail
      refine aq (v:=.tuple #[.int .i64 (lookV t a),A,.int .i64 0]) (by simp[lookV,results,Tryz.results46,go_sem]) rfl ⟨A,by rw[c.out],fun _=>.inr (by rw[c.out];exact F),C.out⟩
   ·have c:=hid (look_err (wr:=wr) j (rec_no m n (by decide)) (by decide));clear m n;go_wp2_with fail
    refine aq (v:=.tuple #[.int .i64 0,.slice none 0 0,.int .i64 9]) (by simp[results,Tryz.results46,go_sem]) rfl ⟨_,by rw[c.out],fun h=>(by rw[c.out] at h;cases h),e.out⟩
 ·have c:=hid (look_range (l:=l) (wr:=wr) i);have K:=hid (walkR_range i);clear i;go_enter Tryz.func46,Tryz.ntmps46
  go_wp2_with fail
  refine (Go.Proofs.YtaejnmmpddbbjaaGreatDoor.Wd.walked_any_o B zs s a w E).mono ?_;rintro r w0 ⟨rfl,rfl⟩;rw[K.out];go_wp2_with fail
  refine aq (v:=.tuple #[.int .i64 0,.slice none 0 0,.int .i64 2]) (by simp[results,Tryz.results46,go_sem]) rfl ⟨_,by rw[c.out],fun h=>(by rw[c.out] at h;cases h),aj _ _⟩
end Go.Proofs.YtaejnmmpddbbjaaGreatDoor.Mmu
namespace Go.Proofs.YtaejnmmpddbbjaaGreatDoor.Wd
open Go.RowKit Mem Bw Nums Mmu
set_option maxRecDepth 512
set_option maxHeartbeats 200000
theorem set_len {p:PW} (i:Nat) (v:Int):(p.ram.set i v).length=p.ram.length:=ar ..
theorem RamOk.set {p:PW} (h:RamOk p) {i:Nat} {v:Int} (hi:i<p.ram.length) (c:0≤v∧v≤65535) (b:beB p (p.k (i/16)) v=false):RamOk {p with ram:=p.ram.set i v}:=by
 refine⟨fun x d=>?_,fun j a=>?_⟩
 ·rcases bj d with g|g
  ·exact h.w x g
  ·rw[g];exact c
 ·have a:j<p.ram.length:=by rwa [set_len] at a
  show beB {p with ram:=p.ram.set i v} (p.k (j/16)) ((p.ram.set i v).getD j 0)=false
  rw[getD_set hi];split
  ·rename_i e;rw[e];exact b
  ·exact h.e j a
theorem Lw.word {p:PW} (h:Lw p) {i:Nat} {v:Int} (hi:i<p.ram.length) (n:0≤v∧v≤65535) (g:beB p (p.k (i/16)) v=false) (d:p.k (i/16)=3∨p.k (i/16)=4→p.ram.getD i 0=0):Lw {p with ram:=p.ram.set i v}:=by
 obtain⟨r,q⟩:=h.m.keys;refine⟨⟨h.m.ks,h.m.ds,⟨r,q.to rfl rfl⟩,h.m.op,h.m.ram.set hi n g,h.m.tk.same (h.m.tk.lf.of (e4:=set_len i v))⟩,fun l hl=>(h.tl l hl).keep fun e o=>told_keep h.m.ram h.m.tk.lf (fun f a=>(isB_k (p:={p with ram:=p.ram.set i v}) (k_in (p:=p) (by rw[a];decide))).trans (by show (p.k f==4)=true;rw[a];rfl)) (set_len i v) (fun j b c=>?_) o,h.tm⟩;show (p.ram.set i v).getD j 0=_
 rw[getD_set hi,ae];intro e;rw[e] at b c;exact c (d b)
theorem Lv.word {p:PW} (h:Lv p) {i:Nat} {v:Int} (hi:i<p.ram.length) (c:0≤v∧v≤65535) (b:beB p (p.k (i/16)) v=false) (a:p.k (i/16)=3∨p.k (i/16)=4→p.ram.getD i 0=0):Sm p {p with ram:=p.ram.set i v}:=h.to (h.w.word hi c b a) rfl rfl rfl
theorem Lw.unmap {p:PW} (h:Lw p) {i:Nat} (hi:i<p.ram.length):Lw (fwP {p with ram:=p.ram.set i 0} 0 (-1)):=by
 obtain⟨r,d⟩:=h.m.keys;have m:Md (fun _=>False) {p with ram:=p.ram.set i 0}:=⟨h.m.ks,h.m.ds,⟨r,d.to rfl rfl⟩,h.m.op,h.m.ram.set hi (by decide) (beB_iff.2 ⟨fun _=>.inl rfl,fun _=>.inl rfl⟩),h.m.tk.same (h.m.tk.lf.of (e4:=set_len i 0))⟩;refine⟨m.tlbs (by simp),fun l hl=>?_,h.tm⟩;obtain⟨l0,b,rfl⟩:=List.mem_map.1 (show l∈p.tlbs.map _ from hl);refine (h.tl l0 b).filter fun e c a=>?_;have t:=(h.tl l0 b).t e c;unfold toldB at t ⊢;unfold kpE at a;simp only[am,bp,aU] at t a ⊢;rw[show e.2.1*16=16*e.2.1 by omega];exact⟨⟨t.1.1,t.1.2⟩,a.1⟩
theorem Lv.unmap {p:PW} (h:Lv p) {i:Nat} (hi:i<p.ram.length):Sm p (fwP {p with ram:=p.ram.set i 0} 0 (-1)):=h.to (h.w.unmap hi) rfl rfl (by show (p.tlbs.map _).length=_;simp)
theorem Lw.has {p:PW} (h:Lw p) {t:Nat} (a:p.k t=6) {k:Nat} {v:Int} (hk:k≠9∧k≠10∧k≠14∧k≠17∧k≠18) (b:fOk p k v=true):Lw (p.task t k v):=h.tk (h.m.tk.fld a b hk.2.2.2.1 (.inr ⟨hk.1,hk.2.1,hk.2.2.1,hk.2.2.2.2⟩) (fun e=>absurd e hk.1)) ((dt p).task _ _ _)
theorem Lv.has {p:PW} (h:Lv p) {t:Nat} (a:p.k t=6) {k:Nat} {v:Int} (hk:k≠9∧k≠10∧k≠14∧k≠17∧k≠18) (b:fOk p k v=true):Sm p (p.task t k v):=h.rs (h.w.has a hk b) ((dt p).task _ _ _)
theorem Lv.reg {p:PW} (h:Lv p) {t:Nat} (a:p.k t=6) {k:Nat} {v:Int} (hk:k≤8) (b:0≤v∧v≤65535):Sm p (p.task t k v):=h.rs (h.w.reg a (.inl hk) b) ((dt p).task _ _ _)
theorem Lv.tlb {p:PW} (h:Lv p) {c:Nat} {l:List Ent} (hl:TlO p l):Sm p {p with tlbs:=p.tlbs.set c l}:=by
 refine h.to ⟨h.w.m.tlbs (by simp),fun m b=>?_,h.w.tm⟩ rfl rfl (by simp);have k:∀m,TlO p m→TlO {p with tlbs:=p.tlbs.set c l} m:=fun m g=>g.keep fun e a=>(told_same (p:=p) (q:={p with tlbs:=p.tlbs.set c l}) rfl rfl e).trans a;rcases bj b with g|g
 ·exact k m (h.w.tl m g)
 ·rw[g];exact k l hl
theorem Lw.tick {p:PW} (h:Lw p):Lw {p with time:=p.time+1}:=by
 obtain⟨r,b⟩:=h.m.keys;exact⟨⟨h.m.ks,h.m.ds,⟨r,b.to rfl rfl⟩,h.m.op,⟨h.m.ram.w,h.m.ram.e⟩,h.m.tk.same h.m.tk.lf.of⟩,fun l hl=>(h.tl l hl).keep fun e a=>(told_same (p:=p) (q:={p with time:=p.time+1}) rfl rfl e).trans a,by show 0≤p.time+1;have:=h.tm;omega⟩
theorem told_page {p:PW} (h:Lw p) {e:Ent} (l:toldB p e=true):∃f:Nat,e.2.2.1=f∧p.k f=2:=by
 unfold toldB at l;simp only[am,bp,aU] at l;obtain⟨⟨w,D⟩,⟨c,d⟩,_⟩:=l;obtain⟨s,q,B,r⟩:=isB_nat w;rw[q] at c d;generalize F:e.2.1*16=a at*;have lf:=h.m.tk.lf;unfold walkR at c d;by_cases c1:¬inb p.ram.length s a
 ·rw[ag c1] at c;cases c
 rw[ae c1] at c d;by_cases c2:¬isE (e1 p.ram s a) (n16 p.ram)
 ·rw[ag c2] at c;cases c
 rw[ae c2] at c d;by_cases i:¬isE (e2 p.ram (e1 p.ram s a%1024) a) (n16 p.ram)
 ·rw[ag i] at c;cases c
 rw[ae i] at d;have E:0≤a∧a/256≤15:=by omega
 have o:¬isE 0 (n16 p.ram):=by unfold isE;omega
 have x:((s:Int)*16+a/256).toNat<p.ram.length:=by have:=lf.ram;omega
 have b1:=(beB_iff.1 (h.m.ram.e _ x)).1 (by rw[show ((s:Int)*16+a/256).toNat/16=s by omega];exact r);obtain⟨t,n,C,v⟩:=isB_nat (b1.resolve_left fun y=>c2 (by unfold e1;rw[y];exact o));have n:e1 p.ram s a - 32768=t:=n;have k2:=lf.k2;have A:e1 p.ram s a%1024=t:=by omega
 rw[A] at d i;have z:((t:Int)*16+a/16%16).toNat<p.ram.length:=by have:=lf.ram;omega
 have b2:=(beB_iff.1 (h.m.ram.e _ z)).2 (by rw[show ((t:Int)*16+a/16%16).toNat/16=t by omega];exact v);have d:e2 p.ram t a%1024=e.2.2.1:=d;rcases b2.resolve_left fun y=>i (by unfold e2;rw[y];exact o) with b|b
 ·obtain⟨f,g,u,j⟩:=isB_nat b;have g:e2 p.ram t a - 32768=f:=g;exact⟨f,by omega,j⟩
 ·obtain⟨f,g,u,j⟩:=isB_nat b;have g:e2 p.ram t a - 32768 - 16384=f:=g;exact⟨f,by omega,j⟩
theorem wrap_s {z:Int} (a:0≤z) (b:z≤100000):wrap64 z=z:=by unfold wrap64;omega
theorem walk_pg (zs:List Int) (s a:Int) (e:0≤a∧a<4096):walkR zs s (a/16*16)=walkR zs s a:=by
 have b:e1 zs s (a/16*16)=e1 zs s a:=by unfold e1;rw[show a/16*16/256=a/256 by omega]
 have d:∀t,e2 zs t (a/16*16)=e2 zs t a:=fun t=>by unfold e2;rw[show a/16*16/16%16=a/16%16 by omega]
 have hi:inb zs.length s (a/16*16)↔inb zs.length s a:=by unfold inb;omega
 unfold walkR;rw[b,d];by_cases c:inb zs.length s a
 ·rw[ae (not_not_intro (hi.2 c)),ae (not_not_intro c)]
 ·rw[ag (fun y=>c (hi.1 y)),ag c]
theorem TlO.fill {p:PW} {l:List Ent} (h:TlO p l) {e:Ent} (a:toldB p e=true):TlO p (fillR l e):=by
 have f:∀x∈fillR l e,x=e∨x∈dropR l e.1 e.2.1:=fun x b=>by
  have:=List.mem_of_mem_drop b;rw[dA,cg] at this;exact this.symm
 refine⟨last4_len _,fun x b=>?_,?_⟩
 ·rcases f x b with g|g
  ·rw[g];exact a
  ·exact h.t x (List.mem_filter.1 g).1
 ·unfold fillR last4;refine List.Pairwise.drop ?_;rw[List.pairwise_append];refine⟨h.d.filter _,List.pairwise_singleton _ _,fun x b y c=>?_⟩;rw[cg] at c;rw[c];have:=(List.mem_filter.1 b).2;obtain⟨_,i,_⟩:=(show isB p e.1 4=true∧(0≤e.2.1∧e.2.1≤255)∧True from by
   unfold toldB at a;simp only[am,aU] at a;exact⟨a.1.1,a.1.2,trivial⟩)
  unfold stays at this;unfold pg;have j:(0:Int)≤e.2.1:=i.1;simp[j] at this ⊢;omega
theorem look_lv {p:PW} (h:Lw p) {l:List Ent} (hl:TlO p l) {s a:Int} {wr:Bool} (j:isOrB p s 4=true) (c:(lookR p.ram l s a wr).2.2=0):
  TlO p (lookR p.ram l s a wr).2.1∧∃f:Nat,p.k f=2∧(lookR p.ram l s a wr).1=f*16+a%16∧0≤a:=by
 unfold lookR at c ⊢;by_cases c1:¬inb p.ram.length s a
 ·rw[ag c1] at c;cases c
 rw[ae c1] at c ⊢;have c1:=Decidable.not_not.1 c1;have o:0≤a∧a<4096:=⟨c1.2.2.2.2.1,c1.2.2.2.2.2⟩;by_cases c2:(recR p.ram l s a).2.2≠0
 ·rw[ag c2] at c;exact absurd c c2
 rw[ae c2] at c ⊢;have c2:=Decidable.not_not.1 c2;by_cases n:wr=true∧(recR p.ram l s a).1.2.2.2=false
 ·rw[ag n] at c;cases c
 rw[ae n];have key:TlO p (recR p.ram l s a).2.1∧toldB p (recR p.ram l s a).1=true:=by
  obtain⟨f,d⟩:∃f,findR l s (a/16)=f:=⟨_,rfl⟩
  obtain⟨e,ok⟩:=f
  cases ok with
  |true=>
   rw[rec_found d];refine⟨hl,hl.t e ?_⟩;unfold findR at d;split at d
   ·rename_i hlt;injection d with g _
    rw[←g];exact aw hlt
   ·injection d with _ g
    cases g
  |false=>
   obtain⟨g,i⟩:∃g,walkR p.ram s a=g:=⟨_,rfl⟩
   obtain⟨t,b,k⟩:=g;by_cases hk:k=0
   ·subst hk;rw[rec_yes d i];have q:toldB p (s,a/16,t,b)=true:=by
     unfold toldB;have v:isB p s 4=true:=by
      unfold isOrB at j;rw[cd] at j;exact j.resolve_left fun e=>by have:=eq_of_beq e;have:=c1.2.2.1;omega
     show (isB p s 4&&decide (0≤a/16∧a/16≤255)&&((walkR p.ram s (a/16*16)).2.2==0&&(walkR p.ram s (a/16*16)).1==t&&(walkR p.ram s (a/16*16)).2.1==b))=true
     rw[walk_pg _ _ _ o,i,v,aF (by omega)];simp
    exact⟨hl.fill q,q⟩
   ·rw[rec_no d i hk] at c2;exact absurd c2 hk
 refine⟨key.1,?_⟩;obtain⟨f,r,u⟩:=told_page h key.2;have w:=k_in (p:=p) (f:=f) (by omega);have k2:=h.m.tk.lf.k2;refine⟨f,u,?_,o.1⟩;show lookV (recR p.ram l s a).1.2.2.1 a=_
 rw[r];unfold lookV;rw[wrap_s (z:=(f:Int)*16) (by omega) (by omega),wrap_s (by omega) (by omega)]
theorem fill_pos (l:List Ent) (e:Ent):0<(fillR l e).length:=by
 unfold fillR last4;rw[dL,av,List.length_singleton];omega
theorem find_in {l:List Ent} {s a:Int} {e:Ent} (h:findR l s a=(e,true)):e∈l∧pg s a e=true:=by
 unfold findR at h;split at h
 ·rename_i hlt;injection h with g _
  rw[←g];exact⟨aw hlt,dY (w:=hlt)⟩
 ·injection h with _ g
  cases g
theorem tlb_same {p:PW} {l:List Ent} (hl:TlO p l) (s a:Int) (wr:Bool):(lookR p.ram l s a wr).1=(lookR p.ram [] s a wr).1∧(lookR p.ram l s a wr).2.2=(lookR p.ram [] s a wr).2.2∧(lookR p.ram l s a wr).2.1.length≤4∧((lookR p.ram l s a wr).2.2=0→0<(lookR p.ram l s a wr).2.1.length):=by
 unfold lookR;by_cases c1:¬inb p.ram.length s a
 ·rw[ag c1,ag c1];exact⟨rfl,rfl,by decide,fun h=>by cases h⟩
 rw[ae c1,ae c1];have c1:=Decidable.not_not.1 c1;have u:0≤a∧a<4096:=⟨c1.2.2.2.2.1,c1.2.2.2.2.2⟩;have n0:findR [] s (a/16)=((0,0,0,false),false):=find_no (by simp);obtain⟨f,c⟩:∃f,findR l s (a/16)=f:=⟨_,rfl⟩
 obtain⟨e,ok⟩:=f
 cases ok with
 |true=>
  obtain⟨q,r⟩:=find_in c;obtain⟨x,y,t,b⟩:=e;have i:=hl.t _ q;unfold toldB at i;unfold pg at r;simp only[am,bp,aU] at i r;obtain⟨_,⟨j,m⟩,o⟩:=i;obtain⟨rfl,rfl⟩:x=s∧y=a/16:=by omega
  have z:walkR p.ram x a=(t,b,0):=by
   rw[walk_pg _ _ _ u] at j m o;exact Prod.ext m (Prod.ext o j)
  rw[rec_found c,rec_yes n0 z];have v:=hl.n;have w:0<l.length:=List.length_pos_of_mem q;simp only[ne_eq,not_true_eq_false,if_false];split
  ·exact⟨rfl,rfl,by decide,fun h=>by cases h⟩
  ·exact⟨rfl,rfl,v,fun _=>w⟩
 |false=>
  obtain⟨g,d⟩:∃g,walkR p.ram s a=g:=⟨_,rfl⟩
  obtain⟨t,b,k⟩:=g;by_cases hk:k=0
  ·subst hk;rw[rec_yes c d,rec_yes n0 d];simp only[ne_eq,not_true_eq_false,if_false];split
   ·exact⟨rfl,rfl,by decide,fun h=>by cases h⟩
   ·exact⟨rfl,rfl,last4_len _,fun _=>fill_pos _ _⟩
  ·rw[rec_no c d hk,rec_no n0 d hk];rw[ag hk];exact⟨rfl,rfl,bI 4,fun h=>absurd h hk⟩
end Go.Proofs.YtaejnmmpddbbjaaGreatDoor.Wd
