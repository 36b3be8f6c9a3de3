/- Ubi -/
import Derived.Test.YtnccmdndkmmhcaaGreatDoorUbh
set_option maxRecDepth 100000
set_option maxHeartbeats 16000000
namespace Go.Proofs.YtnccmdndkmmhcaaGreatDoor
namespace Nums
open Go.RowKit Mem
-- from Ints.tpl
def fP (c n:Int):Int:=if c<0 then (-(c+1)).tmod n else c.tmod n
theorem m3 (c n:Int) (a:0<n):0<=fP c n∧fP c n<n:=by
 unfold fP;split
 ·have:0<= -(c+1):=oA;rw[cZ this];exact⟨Int.emod_nonneg _ oA,Int.emod_lt_of_pos _ a⟩
 ·have:0<=c:=oA;rw[cZ this];exact⟨Int.emod_nonneg _ oA,Int.emod_lt_of_pos _ a⟩
theorem _root_.Go.Proofs.YtnccmdndkmmhcaaGreatDoor.cG:type_of% @m3:= @m3
theorem yd (c n:Int) (w:World) (b: -9223372036854775808<=c) (d:c<=9223372036854775807) (f:0<n):
  Calls Tryz.prog 10 #[.int .i64 c,.int .i64 n] w fun e w'=>e=.returned (.int .i64 (fP c n))∧w=w':=by
 have g:n≠0:=oA;by_cases a:c<0
 ·go_enter Tryz.func10,Tryz.ntmps10
  go_wp2_with fail
  go_ret
  refine⟨pS ?_,rfl⟩;unfold fP;rw[ag a,Int.neg_tmod]
 ·go_enter Tryz.func10,Tryz.ntmps10
  go_wp2_with fail
  go_ret
  refine⟨pS ?_,rfl⟩;unfold fP;rw[ae oA,cZ oA]
theorem _root_.Go.Proofs.YtnccmdndkmmhcaaGreatDoor.eh:type_of% @yd:= @yd
end Nums
namespace Mad
open Go.RowKit Mem Nums Wd
-- from MadeIns.tpl
def By (w:World) (b off:Nat) (zs:List (Int×Int×Int×Int)):Prop:=
 ∀j (h:j<zs.length),w.cell? ⟨b,off+j*4,none⟩=some (.int .i64 zs[j].1)∧w.cell? ⟨b,off+j*4+1,none⟩=some (.int .i64 zs[j].2.1)∧w.cell? ⟨b,off+j*4+2,none⟩=some (.int .i64 zs[j].2.2.1)∧w.cell? ⟨b,off+j*4+3,none⟩=some (.int .i64 zs[j].2.2.2)
theorem Cq:(Tryz.prog.info? 161).map (fun i=>(i.zero,i.size,i.bytes))=some (some (.agg zQ),4,32):=oK
def i6 (l:List (Int×Int×Int×Int)):List Value:=l.flatMap fun q=>[.int .i64 q.1,.int .i64 q.2.1,.int .i64 q.2.2.1,.int .i64 q.2.2.2]
theorem vY (l:List (Int×Int×Int×Int)) (j:Nat) (h:j<l.length):(i6 l)[j*4]? =some (.int .i64 l[j].1)∧(i6 l)[j*4+1]? =some (.int .i64 l[j].2.1)∧(i6 l)[j*4+2]? =some (.int .i64 l[j].2.2.1)∧(i6 l)[j*4+3]? =some (.int .i64 l[j].2.2.2):=by
 induction l generalizing j with
 |nil=>simp at h
 |cons q l ih=>
  have e:i6 (q::l)=.int .i64 q.1::.int .i64 q.2.1::.int .i64 q.2.2.1::.int .i64 q.2.2.2::i6 l:=rfl;rw[e]
  cases j with
  |zero=>exact⟨rfl,rfl,rfl,rfl⟩
  |succ j=>
   have:=ih j (by simpa using h);have e2:(j+1)*4=j*4+4:=oA;rw[e2];exact this
theorem mu (l:List (Int×Int×Int×Int)) (q:Int×Int×Int×Int):i6 (l++[q])=i6 l++[.int .i64 q.1,.int .i64 q.2.1,.int .i64 q.2.2.1,.int .i64 q.2.2.2]:=by
 unfold i6;rw[List.flatMap_append];rfl
theorem _root_.Go.Proofs.YtnccmdndkmmhcaaGreatDoor.dW:type_of% @mu:= @mu
theorem fq (W:World) (a b c d:Value) (e:TypeId):∀(j:Nat) (x:Value),[a,b,c,d][j]? =some x->(W.alloc (.cells #[a,b,c,d] e)).cell? ((⟨W.heap.size,0,none⟩:Addr).add j)=some x:=by
 intro j x h;rw[show (⟨W.heap.size,0,none⟩:Addr).add j=⟨W.heap.size,j,none⟩ from by unfold Addr.add;split<;>simp_all,eF _ _ _ _ rfl];rw[<-h];simp
theorem qF (a b c d:Int):∀x∈[Value.int .i64 a,.int .i64 b,.int .i64 c,.int .i64 d],x.oneCell'=true:=by
 intro x e;simp at e;rcases e with rfl|rfl|rfl|rfl<;>rfl
theorem _root_.Go.Proofs.YtnccmdndkmmhcaaGreatDoor.eO:type_of% @qF:= @qF
theorem CZ {w:World} {B:Nat} {v:Value} {l:List (Int×Int×Int×Int)} (h:w.ownsRow B 161 4 v l.length (i6 l)) (hl:l≠[]):∃b cap,v=.slice (some ⟨b,0,none⟩) l.length cap∧By w b 0 l∧B<=b:=by
 rcases h.2 with ⟨rfl,a⟩|⟨g,cap,f,rfl,a,_⟩
 ·exact absurd (List.length_eq_zero_iff.1 a) hl
 ·refine⟨g,cap,rfl,fun j e=>?_,a⟩;obtain⟨c,e1,e2,d⟩:=vY l j e;simp only[aC];rw[h.cellAt (j*4) oA,h.cellAt (j*4+1) oA,h.cellAt (j*4+2) oA,h.cellAt (j*4+3) oA];exact⟨c,e1,e2,d⟩
theorem pP (v:Value) (zs:List Int) (i:Nat) (w:World) (hv:oN w v zs) (hl:zs.length<=256) (hi:i<=200):
  Calls Tryz.prog 34 #[v,.int .i64 i] w fun e w'=>∃r:Int,e=.returned (.int .i64 r)∧0<=r∧r<3000000∧Below w.heap.size w w':=by
 obtain⟨q,b,off,cap,rfl,n,p,l⟩:=hv
 cases zs with
 |nil=>
  go_enter Tryz.func34,Tryz.ntmps34
  go_wp2_with fail
  go_ret
  exact⟨(i:Int)*31,rfl,oA,oA,af _ _⟩
 |cons z0 zr=>
  have c:0<(z0::zr).length:=oS;generalize z0::zr=zs at*;have o:=n c;subst o;have a:i%zs.length<zs.length:=Nat.mod_lt _ c;have m:=p (i%zs.length) a;have f:=l zs[i%zs.length] (av a);generalize zs[i%zs.length]=z at m f;obtain⟨g,k⟩:=f;have s:(0:Int)<(zs.length:Int):=oA;have t:((zs.length:Int)==0)=false:=beq_eq_false_iff_ne.2 oA;have A:((i:Int).tmod (zs.length:Int))=((i%zs.length:Nat):Int):=by rw[cZ oA];simp
  have x:((i:Int).tdiv (zs.length:Int))=((i/zs.length:Nat):Int):=by rw[bR oA];simp
  have u:i/zs.length<=200:=aB (Nat.div_le_self _ _) hi;obtain⟨B,C⟩:=cG z 1000003 oD;have y:=Int.ofNat_lt.2 a;generalize i%zs.length=j at*;generalize i/zs.length=d at*;go_enter Tryz.func34,Tryz.ntmps34
  go_wp2_with fail
  go_quiet (first|(go_at_call 10;refine bF ((eh _ _ _ g k oD).mono fun _ _ h=>⟨h.1,h.2.symm⟩)))
  go_wp2_with fail
  go_ret
  exact⟨fP z 1000003+(d:Int)*7919,by first|rfl|(simp;done),oA,oA,aD _ _⟩
def nF (q:Int×Int×Int×Int):Prop:=(0<=q.1∧q.1<=14)∧(0<=q.2.1∧q.2.1<=7)∧(0<=q.2.2.1∧q.2.2.1<=7)∧0<=q.2.2.2∧q.2.2.2<=49
theorem fN {o a b i:Int} (e:0<=o∧o<=14) (c:0<=a∧a<=7) (d:0<=b∧b<=7) (hi:0<=i∧i<=49):nF (o,a,b,i):=⟨e,c,d,hi⟩
theorem qJ {l:List (Int×Int×Int×Int)} {q:Int×Int×Int×Int} (h:∀x∈l,nF x) (b:nF q):∀x∈l++[q],nF x:=by
 intro x a;rcases dH.1 a with a|a
 ·exact h x a
 ·simp at a;subst a;exact b
theorem _root_.Go.Proofs.YtnccmdndkmmhcaaGreatDoor.eN:type_of% @qJ:= @qJ
theorem lB (v:Value) (rs:List Int) (a:Nat) (w:World) (hv:oN w v rs) (R:rs.length<=256) (U:a<100) (cl:Nat) (Q:0<(cl:Int)) (W:(cl:Int)<=18):
  Calls Tryz.prog 115 #[v,.int .i64 a,.int .i64 cl] w fun e w'=>∃b cap zs,e=.returned (.slice (some ⟨b,0,none⟩) zs.length cap)∧zs.length=16∧(∀q∈zs,nF q)∧By w' b 0 zs∧w.heap.size<=b∧Below w.heap.size w w':=by
 obtain⟨i0,hi,t,x,y⟩:=fj Cq;have N:=hid hv;go_enter Tryz.func115,Tryz.ntmps115
 go_wp2_with fail
 go_loopw [7,8] (fun u i wr=>∃(k:Nat) (l:List (Int×Int×Int×Int)),k<=15∧i=.int .i64 k∧l.length=k∧(∀q∈l,nF q)∧wr.ownsRow w.heap.size 161 4 u l.length (i6 l)∧Below w.heap.size w wr) (fun _ i _=>15 - (intOf i).toNat)
 case atStart=>exact⟨0,[],oA,rfl,rfl,fun q h=>by simp at h,ct _ _ _ _,af _ _⟩
 case round=>
  obtain⟨k,l,hk,rfl,L,K,J,hB⟩:=hrel;have p:=hid K;have G:=hid J;have F:=hid hB;have s:=hid L;have Z:l.length<=15:=oA;clear K J hB L;by_cases aa:k<15
  ·have ab:(k:Int)<15:=oA;have I:=hid (show Calls Tryz.prog 34 #[v,.int .i64 ((a:Int)+(k:Int))] wr fun e w'=>∃r:Int,e=.returned (.int .i64 r)∧0<=r∧r<3000000∧Below wr.heap.size wr w' by
    have:=pP v rs (a+k) wr (N.below F) R oA;rw[Int.natCast_add] at this;exact this)
   go_wp2_with fail
   refine I.mono ?_;rintro e C ⟨c,rfl,Q,V,H⟩;have n:=hid (fI G H);have d:=hid (btr F H);clear H I;go_wp2_with fail
   refine (eh _ _ _ oA oA oD).mono ?_;rintro e w' ⟨rfl,rfl⟩;obtain⟨X,Y⟩:=cG (c/16) 32 oD;generalize fP (c/16) 32=o at*;go_wp2_with fail
   refine (eh _ _ _ oA oA oD).mono ?_;rintro e w' ⟨rfl,rfl⟩;obtain⟨ac,ad⟩:=cG c 16 oD;generalize fP c 16=B at*;have S:B=0∨B=1∨B=2∨B=3∨B=4∨B=5∨B=6∨B=7∨B=8∨B=9∨B=10∨B=11∨B=12∨B=13∨B=14∨B=15:=oA;rcases S with rfl|rfl|rfl|rfl|rfl|rfl|rfl|rfl|rfl|rfl|rfl|rfl|rfl|rfl|rfl|rfl
   ·go_wp2_with (at_builtin;refine aY _ rfl _ _ 118 rfl w.heap.size 161 i0 (.agg zQ) 4 32 Tryz.underlying118 hi t x y rfl oD _ _ _ rfl (n.alloc _) ⟨C.heap.size,0,none⟩ 1 1 [.int .i64 1,.int .i64 1,.int .i64 0,.int .i64 o] rfl rfl ?c1 (eO _ _ _ _) ?c3 ?c4 ?c5 ?_)
    case c1=>exact fq _ _ _ _ _ _
    case c3=>unfold maxLen;omega
    case c4=>omega
    case c5=>have:=d.size;simp;omega
    intro z A g f _;have j:=hid ((bal d _).grown f (by have:=d.size;simp;omega) (fun k hk=>(n.lt k hk).1));have m:=hid g;clear g f;go_wp2_with fail
    refine⟨⟨k+1,l++[(1,1,0,o)],oA,by go_num,by rw[ax,s.out];rfl,eN p (fN oA oA oA oA),?_,j.out⟩,by simp[intOf];omega⟩;rw[dW,ax];exact m
   ·go_wp2_with (at_builtin;refine aY _ rfl _ _ 118 rfl w.heap.size 161 i0 (.agg zQ) 4 32 Tryz.underlying118 hi t x y rfl oD _ _ _ rfl (n.alloc _) ⟨C.heap.size,0,none⟩ 1 1 [.int .i64 1,.int .i64 1,.int .i64 0,.int .i64 o] rfl rfl ?c1 (eO _ _ _ _) ?c3 ?c4 ?c5 ?_)
    case c1=>exact fq _ _ _ _ _ _
    case c3=>unfold maxLen;omega
    case c4=>omega
    case c5=>have:=d.size;simp;omega
    intro z A g f _;have j:=hid ((bal d _).grown f (by have:=d.size;simp;omega) (fun k hk=>(n.lt k hk).1));have m:=hid g;go_wp2_with fail
    refine⟨⟨k+1,l++[(1,1,0,o)],oA,by go_num,by rw[ax,s.out];rfl,eN p (fN oA oA oA oA),?_,j.out⟩,by simp[intOf];omega⟩;rw[dW,ax];exact m
   ·go_wp2_with (at_builtin;refine aY _ rfl _ _ 118 rfl w.heap.size 161 i0 (.agg zQ) 4 32 Tryz.underlying118 hi t x y rfl oD _ _ _ rfl (n.alloc _) ⟨C.heap.size,0,none⟩ 1 1 [.int .i64 1,.int .i64 1,.int .i64 0,.int .i64 o] rfl rfl ?c1 (eO _ _ _ _) ?c3 ?c4 ?c5 ?_)
    case c1=>exact fq _ _ _ _ _ _
    case c3=>unfold maxLen;omega
    case c4=>omega
    case c5=>have:=d.size;simp;omega
    intro z A g f _;have j:=hid ((bal d _).grown f (by have:=d.size;simp;omega) (fun k hk=>(n.lt k hk).1));have m:=hid g;go_wp2_with fail
    refine⟨⟨k+1,l++[(1,1,0,o)],oA,by go_num,by rw[ax,s.out];rfl,eN p (fN oA oA oA oA),?_,j.out⟩,by simp[intOf];omega⟩;rw[dW,ax];exact m
   ·go_wp2_with (at_builtin;refine aY _ rfl _ _ 118 rfl w.heap.size 161 i0 (.agg zQ) 4 32 Tryz.underlying118 hi t x y rfl oD _ _ _ rfl (n.alloc _) ⟨C.heap.size,0,none⟩ 1 1 [.int .i64 1,.int .i64 2,.int .i64 0,.int .i64 o] rfl rfl ?c1 (eO _ _ _ _) ?c3 ?c4 ?c5 ?_)
    case c1=>exact fq _ _ _ _ _ _
    case c3=>unfold maxLen;omega
    case c4=>omega
    case c5=>have:=d.size;simp;omega
    intro z A g f _;have j:=hid ((bal d _).grown f (by have:=d.size;simp;omega) (fun k hk=>(n.lt k hk).1));have m:=hid g;go_wp2_with fail
    refine⟨⟨k+1,l++[(1,2,0,o)],oA,by go_num,by rw[ax,s.out];rfl,eN p (fN oA oA oA oA),?_,j.out⟩,by simp[intOf];omega⟩;rw[dW,ax];exact m
   ·go_wp2_with (at_builtin;refine aY _ rfl _ _ 118 rfl w.heap.size 161 i0 (.agg zQ) 4 32 Tryz.underlying118 hi t x y rfl oD _ _ _ rfl (n.alloc _) ⟨C.heap.size,0,none⟩ 1 1 [.int .i64 1,.int .i64 2,.int .i64 0,.int .i64 o] rfl rfl ?c1 (eO _ _ _ _) ?c3 ?c4 ?c5 ?_)
    case c1=>exact fq _ _ _ _ _ _
    case c3=>unfold maxLen;omega
    case c4=>omega
    case c5=>have:=d.size;simp;omega
    intro z A g f _;have j:=hid ((bal d _).grown f (by have:=d.size;simp;omega) (fun k hk=>(n.lt k hk).1));have m:=hid g;go_wp2_with fail
    refine⟨⟨k+1,l++[(1,2,0,o)],oA,by go_num,by rw[ax,s.out];rfl,eN p (fN oA oA oA oA),?_,j.out⟩,by simp[intOf];omega⟩;rw[dW,ax];exact m
   ·go_wp2_with fail
    refine (eh _ _ _ oA oA oD).mono ?_;rintro e w' ⟨rfl,rfl⟩;obtain⟨D,E⟩:=cG o 9 oD;generalize fP o 9=r at*;go_wp2_with (at_builtin;refine aY _ rfl _ _ 118 rfl w.heap.size 161 i0 (.agg zQ) 4 32 Tryz.underlying118 hi t x y rfl oD _ _ _ rfl (n.alloc _) ⟨C.heap.size,0,none⟩ 1 1 [.int .i64 1,.int .i64 3,.int .i64 0,.int .i64 r] rfl rfl ?c1 (eO _ _ _ _) ?c3 ?c4 ?c5 ?_)
    case c1=>exact fq _ _ _ _ _ _
    case c3=>unfold maxLen;omega
    case c4=>omega
    case c5=>have:=d.size;simp;omega
    intro z A g f _;have j:=hid ((bal d _).grown f (by have:=d.size;simp;omega) (fun k hk=>(n.lt k hk).1));have m:=hid g;go_wp2_with fail
    refine⟨⟨k+1,l++[(1,3,0,r)],oA,by go_num,by rw[ax,s.out];rfl,eN p (fN oA oA oA oA),?_,j.out⟩,by simp[intOf];omega⟩;rw[dW,ax];exact m
   ·go_wp2_with fail
    refine (eh _ _ _ oA oA oD).mono ?_;rintro e w' ⟨rfl,rfl⟩;obtain⟨D,E⟩:=cG o 4 oD;generalize fP o 4=r at*;go_wp2_with (at_builtin;refine aY _ rfl _ _ 118 rfl w.heap.size 161 i0 (.agg zQ) 4 32 Tryz.underlying118 hi t x y rfl oD _ _ _ rfl (n.alloc _) ⟨C.heap.size,0,none⟩ 1 1 [.int .i64 1,.int .i64 4,.int .i64 0,.int .i64 r] rfl rfl ?c1 (eO _ _ _ _) ?c3 ?c4 ?c5 ?_)
    case c1=>exact fq _ _ _ _ _ _
    case c3=>unfold maxLen;omega
    case c4=>omega
    case c5=>have:=d.size;simp;omega
    intro z A g f _;have j:=hid ((bal d _).grown f (by have:=d.size;simp;omega) (fun k hk=>(n.lt k hk).1));have m:=hid g;go_wp2_with fail
    refine⟨⟨k+1,l++[(1,4,0,r)],oA,by go_num,by rw[ax,s.out];rfl,eN p (fN oA oA oA oA),?_,j.out⟩,by simp[intOf];omega⟩;rw[dW,ax];exact m
   ·go_wp2_with fail
    refine (eh _ _ _ oA oA oD).mono ?_;rintro e w' ⟨rfl,rfl⟩;obtain⟨D,E⟩:=cG o 18 oD;generalize fP o 18=r at*;go_wp2_with (at_builtin;refine aY _ rfl _ _ 118 rfl w.heap.size 161 i0 (.agg zQ) 4 32 Tryz.underlying118 hi t x y rfl oD _ _ _ rfl (n.alloc _) ⟨C.heap.size,0,none⟩ 1 1 [.int .i64 11,.int .i64 2,.int .i64 7,.int .i64 (32+r)] rfl rfl ?c1 (eO _ _ _ _) ?c3 ?c4 ?c5 ?_)
    case c1=>exact fq _ _ _ _ _ _
    case c3=>unfold maxLen;omega
    case c4=>omega
    case c5=>have:=d.size;simp;omega
    intro z A g f _;have j:=hid ((bal d _).grown f (by have:=d.size;simp;omega) (fun k hk=>(n.lt k hk).1));have m:=hid g;go_wp2_with fail
    refine⟨⟨k+1,l++[(11,2,7,(32+r))],oA,by go_num,by rw[ax,s.out];rfl,eN p (fN oA oA oA oA),?_,j.out⟩,by simp[intOf];omega⟩;rw[dW,ax];exact m
   ·go_wp2_with fail
    refine (eh _ _ _ oA oA oD).mono ?_;rintro e w' ⟨rfl,rfl⟩;obtain⟨D,E⟩:=cG o 20 oD;generalize fP o 20=r at*;go_wp2_with (at_builtin;refine aY _ rfl _ _ 118 rfl w.heap.size 161 i0 (.agg zQ) 4 32 Tryz.underlying118 hi t x y rfl oD _ _ _ rfl (n.alloc _) ⟨C.heap.size,0,none⟩ 1 1 [.int .i64 10,.int .i64 5,.int .i64 7,.int .i64 (30+r)] rfl rfl ?c1 (eO _ _ _ _) ?c3 ?c4 ?c5 ?_)
    case c1=>exact fq _ _ _ _ _ _
    case c3=>unfold maxLen;omega
    case c4=>omega
    case c5=>have:=d.size;simp;omega
    intro z A g f _;have j:=hid ((bal d _).grown f (by have:=d.size;simp;omega) (fun k hk=>(n.lt k hk).1));have m:=hid g;go_wp2_with fail
    refine⟨⟨k+1,l++[(10,5,7,(30+r))],oA,by go_num,by rw[ax,s.out];rfl,eN p (fN oA oA oA oA),?_,j.out⟩,by simp[intOf];omega⟩;rw[dW,ax];exact m
   ·go_wp2_with fail
    refine (eh _ _ _ oA oA oD).mono ?_;rintro e w' ⟨rfl,rfl⟩;obtain⟨D,E⟩:=cG o 7 oD;generalize fP o 7=r at*;go_wp2_with (at_builtin;refine aY _ rfl _ _ 118 rfl w.heap.size 161 i0 (.agg zQ) 4 32 Tryz.underlying118 hi t x y rfl oD _ _ _ rfl (n.alloc _) ⟨C.heap.size,0,none⟩ 1 1 [.int .i64 (3+r),.int .i64 5,.int .i64 2,.int .i64 0] rfl rfl ?c1 (eO _ _ _ _) ?c3 ?c4 ?c5 ?_)
    case c1=>exact fq _ _ _ _ _ _
    case c3=>unfold maxLen;omega
    case c4=>omega
    case c5=>have:=d.size;simp;omega
    intro z A g f _;have j:=hid ((bal d _).grown f (by have:=d.size;simp;omega) (fun k hk=>(n.lt k hk).1));have m:=hid g;go_wp2_with fail
    refine⟨⟨k+1,l++[((3+r),5,2,0)],oA,by go_num,by rw[ax,s.out];rfl,eN p (fN oA oA oA oA),?_,j.out⟩,by simp[intOf];omega⟩;rw[dW,ax];exact m
   ·go_wp2_with fail
    refine (eh _ _ _ oA oA oD).mono ?_;rintro e w' ⟨rfl,rfl⟩;obtain⟨D,E⟩:=cG o 15 oD;generalize fP o 15=r at*;go_wp2_with (at_builtin;refine aY _ rfl _ _ 118 rfl w.heap.size 161 i0 (.agg zQ) 4 32 Tryz.underlying118 hi t x y rfl oD _ _ _ rfl (n.alloc _) ⟨C.heap.size,0,none⟩ 1 1 [.int .i64 13,.int .i64 0,.int .i64 0,.int .i64 (2*r)] rfl rfl ?c1 (eO _ _ _ _) ?c3 ?c4 ?c5 ?_)
    case c1=>exact fq _ _ _ _ _ _
    case c3=>unfold maxLen;omega
    case c4=>omega
    case c5=>have:=d.size;simp;omega
    intro z A g f _;have j:=hid ((bal d _).grown f (by have:=d.size;simp;omega) (fun k hk=>(n.lt k hk).1));have m:=hid g;go_wp2_with fail
    refine⟨⟨k+1,l++[(13,0,0,(2*r))],oA,by go_num,by rw[ax,s.out];rfl,eN p (fN oA oA oA oA),?_,j.out⟩,by simp[intOf];omega⟩;rw[dW,ax];exact m
   ·go_wp2_with fail
    refine (eh _ _ _ oA oA oA).mono ?_;rintro e w' ⟨rfl,rfl⟩;obtain⟨D,E⟩:=cG o cl oA;generalize fP o cl=r at*;go_wp2_with (at_builtin;refine aY _ rfl _ _ 118 rfl w.heap.size 161 i0 (.agg zQ) 4 32 Tryz.underlying118 hi t x y rfl oD _ _ _ rfl (n.alloc _) ⟨C.heap.size,0,none⟩ 1 1 [.int .i64 14,.int .i64 0,.int .i64 0,.int .i64 r] rfl rfl ?c1 (eO _ _ _ _) ?c3 ?c4 ?c5 ?_)
    case c1=>exact fq _ _ _ _ _ _
    case c3=>unfold maxLen;omega
    case c4=>omega
    case c5=>have:=d.size;simp;omega
    intro z A g f _;have j:=hid ((bal d _).grown f (by have:=d.size;simp;omega) (fun k hk=>(n.lt k hk).1));have m:=hid g;go_wp2_with fail
    refine⟨⟨k+1,l++[(14,0,0,r)],oA,by go_num,by rw[ax,s.out];rfl,eN p (fN oA oA oA oA),?_,j.out⟩,by simp[intOf];omega⟩;rw[dW,ax];exact m
   ·go_wp2_with fail
    refine (eh _ _ _ oA oA oA).mono ?_;rintro e w' ⟨rfl,rfl⟩;obtain⟨D,E⟩:=cG o cl oA;generalize fP o cl=r at*;go_wp2_with (at_builtin;refine aY _ rfl _ _ 118 rfl w.heap.size 161 i0 (.agg zQ) 4 32 Tryz.underlying118 hi t x y rfl oD _ _ _ rfl (n.alloc _) ⟨C.heap.size,0,none⟩ 1 1 [.int .i64 14,.int .i64 0,.int .i64 0,.int .i64 r] rfl rfl ?c1 (eO _ _ _ _) ?c3 ?c4 ?c5 ?_)
    case c1=>exact fq _ _ _ _ _ _
    case c3=>unfold maxLen;omega
    case c4=>omega
    case c5=>have:=d.size;simp;omega
    intro z A g f _;have j:=hid ((bal d _).grown f (by have:=d.size;simp;omega) (fun k hk=>(n.lt k hk).1));have m:=hid g;go_wp2_with fail
    refine⟨⟨k+1,l++[(14,0,0,r)],oA,by go_num,by rw[ax,s.out];rfl,eN p (fN oA oA oA oA),?_,j.out⟩,by simp[intOf];omega⟩;rw[dW,ax];exact m
   ·go_wp2_with fail
    refine (eh _ _ _ oA oA oA).mono ?_;rintro e w' ⟨rfl,rfl⟩;obtain⟨D,E⟩:=cG o cl oA;generalize fP o cl=r at*;go_wp2_with (at_builtin;refine aY _ rfl _ _ 118 rfl w.heap.size 161 i0 (.agg zQ) 4 32 Tryz.underlying118 hi t x y rfl oD _ _ _ rfl (n.alloc _) ⟨C.heap.size,0,none⟩ 1 1 [.int .i64 14,.int .i64 0,.int .i64 0,.int .i64 r] rfl rfl ?c1 (eO _ _ _ _) ?c3 ?c4 ?c5 ?_)
    case c1=>exact fq _ _ _ _ _ _
    case c3=>unfold maxLen;omega
    case c4=>omega
    case c5=>have:=d.size;simp;omega
    intro z A g f _;have j:=hid ((bal d _).grown f (by have:=d.size;simp;omega) (fun k hk=>(n.lt k hk).1));have m:=hid g;go_wp2_with fail
    refine⟨⟨k+1,l++[(14,0,0,r)],oA,by go_num,by rw[ax,s.out];rfl,eN p (fN oA oA oA oA),?_,j.out⟩,by simp[intOf];omega⟩;rw[dW,ax];exact m
   ·go_wp2_with fail
    refine (eh _ _ _ oA oA oA).mono ?_;rintro e w' ⟨rfl,rfl⟩;obtain⟨D,E⟩:=cG o cl oA;generalize fP o cl=r at*;go_wp2_with (at_builtin;refine aY _ rfl _ _ 118 rfl w.heap.size 161 i0 (.agg zQ) 4 32 Tryz.underlying118 hi t x y rfl oD _ _ _ rfl (n.alloc _) ⟨C.heap.size,0,none⟩ 1 1 [.int .i64 14,.int .i64 0,.int .i64 0,.int .i64 r] rfl rfl ?c1 (eO _ _ _ _) ?c3 ?c4 ?c5 ?_)
    case c1=>exact fq _ _ _ _ _ _
    case c3=>unfold maxLen;omega
    case c4=>omega
    case c5=>have:=d.size;simp;omega
    intro z A g f _;have j:=hid ((bal d _).grown f (by have:=d.size;simp;omega) (fun k hk=>(n.lt k hk).1));have m:=hid g;go_wp2_with fail
    refine⟨⟨k+1,l++[(14,0,0,r)],oA,by go_num,by rw[ax,s.out];rfl,eN p (fN oA oA oA oA),?_,j.out⟩,by simp[intOf];omega⟩;rw[dW,ax];exact m
   ·go_wp2_with fail
    refine (eh _ _ _ oA oA oA).mono ?_;rintro e w' ⟨rfl,rfl⟩;obtain⟨D,E⟩:=cG o cl oA;generalize fP o cl=r at*;go_wp2_with (at_builtin;refine aY _ rfl _ _ 118 rfl w.heap.size 161 i0 (.agg zQ) 4 32 Tryz.underlying118 hi t x y rfl oD _ _ _ rfl (n.alloc _) ⟨C.heap.size,0,none⟩ 1 1 [.int .i64 14,.int .i64 0,.int .i64 0,.int .i64 r] rfl rfl ?c1 (eO _ _ _ _) ?c3 ?c4 ?c5 ?_)
    case c1=>exact fq _ _ _ _ _ _
    case c3=>unfold maxLen;omega
    case c4=>omega
    case c5=>have:=d.size;simp;omega
    intro z A g f _;have j:=hid ((bal d _).grown f (by have:=d.size;simp;omega) (fun k hk=>(n.lt k hk).1));have m:=hid g;go_wp2_with fail
    refine⟨⟨k+1,l++[(14,0,0,r)],oA,by go_num,by rw[ax,s.out];rfl,eN p (fN oA oA oA oA),?_,j.out⟩,by simp[intOf];omega⟩;rw[dW,ax];exact m
  ·obtain rfl:k=15:=oA;go_wp2_with (at_builtin;refine aY _ rfl _ _ 118 rfl w.heap.size 161 i0 (.agg zQ) 4 32 Tryz.underlying118 hi t x y rfl oD _ _ _ rfl (G.alloc _) ⟨wr.heap.size,0,none⟩ 1 1 [.int .i64 12,.int .i64 0,.int .i64 0,.int .i64 0] rfl rfl ?c1 (eO _ _ _ _) ?c3 ?c4 ?c5 ?_)
   case c1=>exact fq _ _ _ _ _ _
   case c3=>unfold maxLen;omega
   case c4=>omega
   case c5=>have:=F.size;simp;omega
   intro z A g f _;have j:=hid ((bal F _).grown f (by have:=F.size;simp;omega) (fun k hk=>(G.lt k hk).1));have m:A.ownsRow w.heap.size 161 4 z (l++[(12,0,0,0)]).length (i6 (l++[(12,0,0,0)])):=by
    rw[dW,ax];exact g
   obtain⟨b,cap,T,O,P⟩:=CZ m oS;subst T;have M:=hid O;go_wp2_with fail
   go_ret
   exact⟨b,cap,l++[(12,0,0,0)],rfl,by rw[ax,s.out];rfl,eN p (fN oA oA oA oA),M.out,P,j.out⟩
end Mad
namespace Wd
open Go.RowKit Mem Bw Nums Mmu Hex Mad
def q0 (q:Int×Int×Int×Int):Int:=q.1*256+q.2.1*16+q.2.2.1
def q1 (q:Int×Int×Int×Int):Int:=q.2.2.2
theorem Da {q:Int×Int×Int×Int} (h:nF q):(0<=q0 q∧q0 q<=65535)∧0<=q1 q∧q1 q<=65535:=by
 obtain⟨a,b,c,d⟩:=h;unfold q0 q1;omega
theorem sp (q:Int×Int×Int×Int) (w:World) (h:nF q):
  Calls Tryz.prog 173 #[.agg #[.int .i64 q.1,.int .i64 q.2.1,.int .i64 q.2.2.1,.int .i64 q.2.2.2]] w fun e w'=>e=.returned (.agg #[.int .i64 (q0 q),.int .i64 (q1 q)])∧Below w.heap.size w w':=by
 obtain⟨o,a,b,i⟩:=q;obtain⟨⟨c,d⟩,⟨a0,a1⟩,⟨b0,b1⟩,i0,i1⟩:=h;simp only at c d a0 a1 b0 b1 i0 i1 ⊢;have hi:¬i<0:=oA;have e1:=bZ _ oA oA;have e2:=bZ _ oA oA;have f:=bZ _ oA oA;have e4:=bZ _ oA oA;go_enter Tryz.func173,Tryz.ntmps173
 go_wp2
 exact ar (v:=.agg #[.int .i64 (o*256+a*16+b),.int .i64 i]) (by simp[results,Tryz.results173,go_sem]) rfl ⟨rfl,bal (bal (af _ _) _) _⟩
def cdN (ram:List Int) (a:Nat) (zs:List (Int×Int×Int×Int)):Nat->List Int
 |0=>ram
 |k+1=>((cdN ram a zs k).set (a+2*k) (q0 (zs.getD k (0,0,0,0)))).set (a+2*k+1) (q1 (zs.getD k (0,0,0,0)))
theorem vX (ram:List Int) (a:Nat) (zs:List (Int×Int×Int×Int)):∀k,(cdN ram a zs k).length=ram.length
 |0=>rfl
 |k+1=>by rw[cdN,au,au,vX ram a zs k]
theorem tK (wb:Nat) (tag:Nat->Nat) (V:Nat->Value) (p:PW) (f F lc:Nat) (zs:List (Int×Int×Int×Int)) (w:World) (ax:cb w wb tag V p) (hp:p.Fits) (hI:By w F 0 zs) (ay:tag F=0) (hz:zs.length<=16) (hg:∀q∈zs,nF q) (hf:f*16+2*zs.length<=p.IL.length) (aq:0<p.IL.length):
  Calls Tryz.prog 114 #[.pointer (some ⟨wb,0,none⟩),.int .i64 f,.slice (some ⟨F,0,none⟩) zs.length lc] w fun r w'=>r=.returned (.tuple #[])∧∃tag',cb w' wb tag' V {p with IL:=cdN p.IL (f*16) zs zs.length}∧Kt tag tag' w w':=by
 obtain⟨bt,kr⟩:=iK ax;have TN:=hid (fun x (h:w.heap.size<=x)=>fG (tag:=tag) h);have LT:=hid (show ∀k,k<w.heap.size->jd tag w.heap.size k=tag k from fun k h=>ka h);have KR:=hid kr;have BT:=hid bt;have ap:=hid ay;generalize jd tag w.heap.size=tg at*;have aI:=hp.IL;have aJ:(p.IL.length:Int)<=1000:=oA;have aK:(zs.length:Int)<=16:=oA;have B:=hid hI;have HG:=hid hg;have HF:=hid hf;obtain⟨a,ea⟩:∃a,f*16=a:=⟨_,rfl⟩
 have EA:=hid ea;rw[ea];have aA:a+2*zs.length<=p.IL.length:=oA;have fa:(f:Int)*16=(a:Int):=oA;have FA:=hid fa;obtain⟨c,cap0,e0⟩:∃c cap0,V 0=.slice (some ⟨c,0,none⟩) p.IL.length cap0:=BT.o.IL.form (show 0<p.IL.length from aq)
 have G:=hid e0;have H:=hid (fun W q (h:cb W wb tg V q)=>show W.cell? ⟨wb,0,none⟩=some (.slice (some ⟨c,0,none⟩) p.IL.length cap0) from by have:=ai h.r (k:=0) rfl;rw[e0] at this;exact this);have aB:(f:Int)*16<=1000:=oA;clear hI hg hf ea fa e0;go_enter Tryz.func114,Tryz.ntmps114
 go_wp2_with fail
 go_loopw [6] (fun i wr=>∃k:Nat,k<=zs.length∧i=.int .i64 (k:Int)∧Hid (cb wr wb tg V {p with IL:=cdN p.IL a zs k})∧Hid (Kt tg tg w wr)) (fun i _=>zs.length - (intOf i).toNat)
 case atStart=>exact⟨0,oA,rfl,BT,hid (ew _ _)⟩
 case round=>
  obtain⟨k,hk,rfl,N,v⟩:=hrel;by_cases y:k<zs.length
  rotate_left
  ·obtain rfl:k=zs.length:=oA;have aE:¬((zs.length:Int)<(zs.length:Int)):=oA;go_wp2_with fail
   exact aH (aF rfl _ _ _) rfl ⟨rfl,tg,N.out,KR.trans v⟩
  have aG:(k:Int)<(zs.length:Int):=oA;have TL:=hid (show tg F=0 from by rw[LT.out F (aj _ _ (B.out k y).1)];exact ap);have x0:=v.cell (B.out k y).1 TL;have x1:=v.cell (B.out k y).2.1 TL;have x2:=v.cell (B.out k y).2.2.1 TL;have x3:=v.cell (B.out k y).2.2.2 TL;rw[aC] at x0 x1 x2 x3;have GQ:=hid (HG.out zs[k] (av y));have QD:=hid (show zs.getD k (0,0,0,0)=zs[k] by rw[aa,ac y];rfl);generalize zs[k]=q at*;go_wp2_with fail
  refine (sp q wr GQ).mono ?_;rintro r w2 ⟨rfl,hb⟩;have ab:=hid (N.below hb);have U:=hid (v.trans (bp (tag:=tg) hb));have GE:=hid (show w.heap.size<=w2.heap.size from U.k.size);clear hb x0 x1 x2 x3 N v;have t:=hid (show (w2.alloc (.cells #[.int .i64 (q0 q),.int .i64 (q1 q)] 158)).cell? ⟨w2.heap.size,0,none⟩=some (.int .i64 (q0 q))∧(w2.alloc (.cells #[.int .i64 (q0 q),.int .i64 (q1 q)] 158)).cell? ⟨w2.heap.size,1,none⟩=some (.int .i64 (q1 q)) from⟨by rw[cq];rfl,by rw[cq];rfl⟩);have M:=hid (show Below w2.heap.size w2 (w2.alloc (.cells #[.int .i64 (q0 q),.int .i64 (q1 q)] 158)) from bal (af _ _) _);have E:=hid (TN.out w2.heap.size GE);have ad:=hid (ab.below M);have ae:=hid (U.trans (bp (tag:=tg) M));have ag:(cdN p.IL a zs k).length=p.IL.length:=vX _ _ _ _;have X:=hid ag;clear ab U M ag;go_upto_region 4 with fail
  generalize w2.alloc _=n at t ad ae ⊢;generalize w2.heap.size=b at t E ⊢;have e:Hid (Below n.heap.size n n.drew):=hid (aD n 1);have j:=hid (ad.below e);have T:=hid (ae.trans (bp (tag:=tg) e));have l:=hid (show n.drew.cell? ⟨b,0,none⟩=some (.int .i64 (q0 q))∧n.drew.cell? ⟨b,1,none⟩=some (.int .i64 (q1 q)) from⟨gU e t.1,gU e t.2⟩);obtain⟨d,L⟩:∃d,a+2*k=d:=⟨_,rfl⟩
  have hd:(d:Int)<(p.IL.length:Int):=oA;have J:(f:Int)*16+2*(k:Int)=(d:Int):=by have:=FA.out;omega
  have O:=hid J;have P:=hid L;have m:=hid (j.IU (g:=c) (cap:=cap0) (by rw[show ({p with IL:=(cdN p.IL a zs k)}:PW).IL.length=p.IL.length from X];exact G) d (q0 q));have s:=j.o.IL;rw[G.out,show ({p with IL:=(cdN p.IL a zs k)}:PW).IL.length=p.IL.length from X] at s;have S:=hid (Option.isSome_iff_exists.1 (s.there d 1 oA 0 oA).1);have Q:=hid (s.frozen d);clear s J L
  skip
  refine bI (R:=fun W=>W.cell? ⟨wb,0,none⟩=some (.slice (some ⟨c,0,none⟩) p.IL.length cap0)∧W.cell? ⟨b,0,none⟩=some (.int .i64 (q0 q))∧W.cell? ⟨b,1,none⟩=some (.int .i64 (q1 q))) [12] [0,1,2,3,4,5,6,7,8,9,10] 2 oK ⟨H.out _ _ j,l.out⟩ oK oK oK (fun _=>?_)
  repeat (refine Rf.rs ?_;simp only[jj])
  refine aL ?_
  try simp only[show IntKind.i64.wrap ((f:Int)*16)=(f:Int)*16 from bZ _ oA oA,show IntKind.i64.wrap (2*(k:Int))=2*(k:Int) from bZ _ oA oA,show IntKind.i64.wrap ((f:Int)*16+2*(k:Int))=(f:Int)*16+2*(k:Int) from bZ _ oA oA]
  rw[O.out];refine bN (R:=fun W=>W.cell? ⟨wb,0,none⟩=some (.slice (some ⟨c,0,none⟩) p.IL.length cap0)∧W.cell? ⟨b,0,none⟩=some (.int .i64 (q0 q))∧W.cell? ⟨b,1,none⟩=some (.int .i64 (q1 q))) oK _ ⟨H.out _ _ j,l.out⟩ [11] 1 _ _ oK ?_
  repeat (refine Rf.rs ?_;simp only[jj])
  refine aL ?_;obtain⟨u,hu⟩:=S.out;rw[bu] at hu;have fz:=Q.out;have A:=hid m.1;have C:=hid (T.trans m.2);have D:=hid (show (n.drew.setCell ⟨c,d,none⟩ (.int .i64 (q0 q))).cell? ⟨b,0,none⟩=some (.int .i64 (q0 q))∧(n.drew.setCell ⟨c,d,none⟩ (.int .i64 (q0 q))).cell? ⟨b,1,none⟩=some (.int .i64 (q1 q)) from⟨m.2.cell l.1 E,m.2.cell l.2 E⟩);have Z:=hid (show ((cdN p.IL a zs k).set d (q0 q)).length=p.IL.length by rw[au];exact X);generalize n.drew=v5 at*;refine Rf.r1 12 rfl (fun K hK=>?_);refine wnt oR ?_;go_simp
  refine hK _ _ trivial (bX oK) (fun _ _=>?_)
  try simp only[jj]
  refine bc oK ?_ _;generalize v5.setCell ⟨c,d,none⟩ _=z at A C D ⊢;have ah:=A;have ar:=C;have Y:=Z;have t:=D;have am:=P;generalize d=I at*;have e:=hid (aD z 1);have j:=hid (ah.below e);have T:=hid (ar.trans (bp (tag:=tg) e));have l:=hid (show z.drew.cell? ⟨b,0,none⟩=some (.int .i64 (q0 q))∧z.drew.cell? ⟨b,1,none⟩=some (.int .i64 (q1 q)) from⟨gU e t.1,gU e t.2⟩);obtain⟨d,L⟩:∃d,a+2*k+1=d:=⟨_,rfl⟩
  have hd:(d:Int)<(p.IL.length:Int):=oA;have J:(f:Int)*16+2*(k:Int)+1=(d:Int):=by have:=FA.out;omega
  have O:=hid J;have P:=hid L;have m:=hid (j.IU (g:=c) (cap:=cap0) (by rw[show ({p with IL:=((cdN p.IL a zs k).set I (q0 q))}:PW).IL.length=p.IL.length from Y];exact G) d (q1 q));have s:=j.o.IL;rw[G.out,show ({p with IL:=((cdN p.IL a zs k).set I (q0 q))}:PW).IL.length=p.IL.length from Y] at s;have S:=hid (Option.isSome_iff_exists.1 (s.there d 1 oA 0 oA).1);have Q:=hid (s.frozen d);go_upto_region 5 with fail
  refine bI (R:=fun W=>W.cell? ⟨wb,0,none⟩=some (.slice (some ⟨c,0,none⟩) p.IL.length cap0)∧W.cell? ⟨b,0,none⟩=some (.int .i64 (q0 q))∧W.cell? ⟨b,1,none⟩=some (.int .i64 (q1 q))) [13] [0,1,2,3,4,5,6,7,8,9,10,11] 2 oK ⟨H.out _ _ j,l.out⟩ oK oK oK (fun _=>?_)
  repeat (refine Rf.rs ?_;simp only[jj])
  refine aL ?_
  try simp only[show IntKind.i64.wrap ((f:Int)*16)=(f:Int)*16 from bZ _ oA oA,show IntKind.i64.wrap (2*(k:Int))=2*(k:Int) from bZ _ oA oA,show IntKind.i64.wrap ((f:Int)*16+2*(k:Int))=(f:Int)*16+2*(k:Int) from bZ _ oA oA,show IntKind.i64.wrap ((f:Int)*16+2*(k:Int)+1)=(f:Int)*16+2*(k:Int)+1 from bZ _ oA oA]
  rw[O.out];refine bN (R:=fun W=>W.cell? ⟨wb,0,none⟩=some (.slice (some ⟨c,0,none⟩) p.IL.length cap0)∧W.cell? ⟨b,0,none⟩=some (.int .i64 (q0 q))∧W.cell? ⟨b,1,none⟩=some (.int .i64 (q1 q))) oK _ ⟨H.out _ _ j,l.out⟩ [12] 1 _ _ oK ?_
  repeat (refine Rf.rs ?_;simp only[jj])
  refine aL ?_;obtain⟨u,hu⟩:=S.out;rw[bu] at hu;have fz:=Q.out;have A:=hid m.1;have C:=hid (T.trans m.2);have D:=hid (show (z.drew.setCell ⟨c,d,none⟩ (.int .i64 (q1 q))).cell? ⟨b,0,none⟩=some (.int .i64 (q0 q))∧(z.drew.setCell ⟨c,d,none⟩ (.int .i64 (q1 q))).cell? ⟨b,1,none⟩=some (.int .i64 (q1 q)) from⟨m.2.cell l.1 E,m.2.cell l.2 E⟩);have Z:=hid (show (((cdN p.IL a zs k).set I (q0 q)).set d (q1 q)).length=p.IL.length by rw[au];exact Y);generalize z.drew=v5 at*;refine Rf.r1 13 rfl (fun K hK=>?_);refine wnt oR ?_;go_simp
  refine hK _ _ trivial (bX oK) (fun _ _=>?_)
  try simp only[jj]
  refine bc oK ?_ _;generalize v5.setCell ⟨c,d,none⟩ _=y4 at A C D ⊢;have al:=A;have aw:=C;have az:=Z;have t:=D;have an:=P;generalize d=d4 at*;go_wp2_with fail
  have ao:=hid (show cdN p.IL a zs (k+1)=((cdN p.IL a zs k).set I (q0 q)).set d4 (q1 q) from by rw[cdN,QD.out,an.out,am.out]);exact⟨⟨k+1,oA,by go_num,hid (by rw[ao.out];exact al),aw⟩,by simp[intOf];omega⟩
