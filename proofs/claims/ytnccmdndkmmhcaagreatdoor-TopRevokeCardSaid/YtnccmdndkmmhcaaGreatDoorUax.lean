/- Uax -/
import Derived.Deep.AppendLies
import Derived.Lib.Split
import Derived.Lib.SplitLaws
import Derived.Laws.OwnMore
import Derived.OwnWalk
import Derived.Deep.QuietTactic
import Derived.BigQuiet
import Derived.Test.YtnccmdndkmmhcaaGreatDoorUal
set_option maxRecDepth 100000
set_option maxHeartbeats 16000000
namespace Go.Proofs.YtnccmdndkmmhcaaGreatDoor
namespace Wd
open Go.RowKit Mem Bw Nums Mmu
def wE:Nat->TypeId
 |2=>34
 |3=>37
 |4=>22
 |7=>22
 |8=>38
 |_=>3
def wS:Nat->Nat
 |2=>7
 |3=>20
 |_=>1
def ud {α:Type} (f:Nat->α) (i:Nat) (v:α):Nat->α:=fun j=>if j=i then v else f j
theorem vE {α:Type} (f:Nat->α) (i:Nat) (v:α):ud f i v i=v:=ag rfl
theorem ns {α:Type} (f:Nat->α) {i j:Nat} (v:α) (h:j≠i):ud f i v j=f j:=ae h
structure Wr (W:World) (B x:Nat) (X:Nat->Value) (nn:Nat->Nat) (c:Nat->List Value):Prop where
 lt:x<W.heap.size
 own:∀i,i<10->W.ownsRow B (wE i) (wS i) (X i) (nn i) (c i)
 dj:∀i j,i<10->j<10->i≠j->∀k,(X i).ownBlock=some k->(X j).ownBlock≠some k
 nx:∀i,i<10->(X i).ownBlock≠some x
theorem Wr.kp {W a:World} {T:Nat->Prop} {B x:Nat} {X:Nat->Value} {nn:Nat->Nat} {c:Nat->List Value} (h:Wr W B x X nn c) (hk:Kp T W a) (b:∀i,i<10->∀k,(X i).ownBlock=some k->¬T k):Wr a B x X nn c:=
 ⟨aE h.lt hk.size,fun i hi=>iy (h.own i hi) hk (b i hi),h.dj,h.nx⟩
theorem xp {W W':World} {row:Option Nat} (h:W.grownBy W' row):Kp (fun k=>row=some k) W W':=⟨h.os,h.tape,h.output,h.size,fun k hk a=>h.block k hk fun e=>a e.symm⟩
theorem Wr.app {W:World} {B x:Nat} {X:Nat->Value} {nn:Nat->Nat} {c:Nat->List Value} (h:Wr W B x X nn c) (hB:B<=W.heap.size) {i:Nat} (hi:i<10) {T:TypeId} {z:Value} {bytes:Nat} (C:Tryz.prog.underlying T=some (.slice (wE i))) (G:(Tryz.prog.info? (wE i)).map (fun i=>(i.zero,i.size,i.bytes))=some (some z,wS i,bytes)) (S:z.cells.size=wS i) (O:0<wS i) (D:bytes<=1000)
  (o:Addr) (m t:Nat) (n:List Value) (hl:n.length=m*wS i) (K:∀j u,n[j]? =some u->W.cell? (o.add j)=some u) (A:∀u∈n,u.oneCell'=true) (I:0<m) (J:nn i+m<=1000):
  ∃g cap w',(Builtin.append_ #[T,T] T #[X i,.slice (some o) m t]).run Tryz.prog W=.ok (.slice (some ⟨g,0,none⟩) (nn i+m) cap) w'∧Wr w' B x (ud X i (.slice (some ⟨g,0,none⟩) (nn i+m) cap)) (ud nn i (nn i+m)) (ud c i (c i++n))∧Kp (fun k=>(X i).ownBlock=some k) W w'∧((X i).ownBlock=some g∨g=W.heap.size):=by
 obtain⟨f,E,R,N,Q⟩:=fj G;have U:=Nat.mul_le_mul J D;obtain⟨g,cap,w',M,L,w,q,V⟩:=run_append_lies (P:=Tryz.prog) W T T B (wE i) f z (wS i) bytes C E R N Q S O (X i) (nn i) (c i) (h.own i hi) o m t n hl K A I (by unfold maxLen;omega) oA hB W.heap.size rfl;have y:=xp w;have s:(Value.slice (some ⟨g,0,none⟩) (nn i+m) cap).ownBlock=some g:=rfl;have far:∀j,j<10->j≠i->(X j).ownBlock≠some g:=fun j a H e=>by
  rcases q with d|d
  ·exact h.dj i j hi a (Ne.symm H) g d e
  ·have:=((h.own j a).lt g e).2;omega
 refine⟨g,cap,w',M,⟨aE h.lt w.size,fun j a=>?_,fun j k a hk r b l=>?_,fun j a=>?_⟩,y,q⟩
 ·by_cases e:j=i
  ·subst e;rw[vE,vE,vE];exact L
  ·rw[ns _ _ e,ns _ _ e,ns _ _ e];exact iy (h.own j a) y fun k hk F=>h.dj i j hi a (Ne.symm e) k F hk
 ·by_cases p:j=i
  ·subst p;rw[vE,s] at l;rw[ns _ _ (Ne.symm r), <-l];exact far k hk (Ne.symm r)
  ·rw[ns _ _ p] at l;by_cases v:k=i
   ·subst v;rw[vE,s];intro e;rw[<-e] at l;exact far j a p l
   ·rw[ns _ _ v];exact h.dj j k a hk r b l
 ·by_cases e:j=i
  ·subst e;rw[vE,s];intro e;have e:g=x:=by simpa using e
   rcases q with d|d
   ·rw[e] at d;exact h.nx j a d
   ·have:=h.lt;omega
  ·rw[ns _ _ e];exact h.nx j a
structure Wb (W:World) (B x:Nat) (X:Nat->Value) (nn:Nat->Nat) (c:Nat->List Value):Prop where
 r:Wr W B x X nn c
 b:W.rangeAt x 0 (de X).toList
 t:W.there x 0 11
theorem Wb.next {W d:World} {B x:Nat} {X:Nat->Value} {nn:Nat->Nat} {c:Nat->List Value} (h:Wb W B x X nn c) (a:Below W.heap.size W d):Wb d B x X nn c:=
 ⟨h.r.kp (T:=fun _=>False) (.IM a) (fun _ _ _ _=>id),eM h.b (T:=fun _=>False) (.IM a) id,eg h.t (T:=fun _=>False) (.IM a) id⟩
theorem yX (X:Nat->Value) (i:Nat) (hi:i<10) (v:Value):(de X).toList.set i v=(de (ud X i v)).toList:=by
 match i,hi with
 |0,_=>rfl
 |1,_=>rfl
 |2,_=>rfl
 |3,_=>rfl
 |4,_=>rfl
 |5,_=>rfl
 |6,_=>rfl
 |7,_=>rfl
 |8,_=>rfl
 |9,_=>rfl
 |_+10,h=>omega
theorem Wb.put {W w':World} {B x:Nat} {X:Nat->Value} {nn:Nat->Nat} {c:Nat->List Value} (h:Wb W B x X nn c) {i:Nat} (hi:i<10) {v:Value} {f:Nat->Nat} {a:Nat->List Value} (d:Wr w' B x (ud X i v) f a) (hk:Kp (fun k=>(X i).ownBlock=some k) W w'):
  Wb (w'.setCell ⟨x,i,none⟩ v) B x (ud X i v) f a∧Kp (fun k=>(X i).ownBlock=some k∨k=x) W (w'.setCell ⟨x,i,none⟩ v):=by
 have k2:=(aV (fun k=>k=x) w').setCell (b:=x) (o:=i) (Or.inl rfl) v;refine⟨⟨d.kp k2 fun j g k hk e=>?_,?_,?_⟩,(hk.wider fun k _ e=>.inl e).trans (k2.wider fun k _ e=>.inr e)⟩
 ·subst e;exact d.nx j g hk
 ·have l:=eM h.b hk (h.r.nx i hi);rw[<-yX X i hi v];exact m6 l (by show i<11;omega) v
 ·exact ib (eg h.t hk (h.r.nx i hi)) _ v
def wN (p:PW):Nat->Nat
 |0=>p.IL.length
 |1=>p.kinds.length
 |2=>p.IH.length
 |3=>p.II.length
 |4=>p.lines.length
 |5=>p.bits.length
 |6=>p.IJ.length
 |7=>p.ready.length
 |8=>p.IK.length
 |9=>p.IQ.length
 |_=>0
def wC (p:PW):Nat->List Value
 |0=>dU p.IL
 |1=>dU p.kinds
 |2=>eX 7 p.IH
 |3=>eX 20 p.II
 |4=>List.replicate p.lines.length (.slice none 0 0)
 |5=>dU p.bits
 |6=>dU p.IJ
 |7=>List.replicate p.ready.length (.slice none 0 0)
 |8=>List.replicate p.IK.length (.slice none 0 0)
 |9=>dU p.IQ
 |_=>[]
def rN (X:Nat->Value) (k:Nat):Nat->Nat
 |0=>0
 |n+1=>if (X n).ownBlock=some k then n+2 else rN X k n
def Bl (X:Nat->Value) (x k:Nat):Nat:=if k=x then 1 else rN X k 10
theorem yB {X:Nat->Value} {k i:Nat} (hk:(X i).ownBlock=some k):∀n,i<n->(∀j,j<n->j≠i->(X j).ownBlock≠some k)->rN X k n=i+2
 |0,h,_=>oA
 |n+1,h,hd=>by
  unfold rN;by_cases e:n=i
  ·subst e;rw[ag hk]
  ·rw[ae (hd n oA e)];exact yB hk n oA fun j b a=>hd j oA a
theorem Wr.tag {W:World} {B x:Nat} {X:Nat->Value} {nn:Nat->Nat} {c:Nat->List Value} (h:Wr W B x X nn c) {i:Nat} (hi:i<10) {k:Nat} (hk:(X i).ownBlock=some k):Bl X x k=i+2:=by
 unfold Bl;rw[ae (show ¬k=x from fun e=>h.nx i hi (by rw[<-e];exact hk))];exact yB hk 10 hi fun j a b=>h.dj i j hi a (Ne.symm b) k hk
theorem Hh {W:World} {B e size n:Nat} {v:Value} {xs:List Value} (h:W.ownsRow B e size v n xs):W.ownsRow 0 e size v n xs:=by
 refine⟨h.1,?_⟩;rcases h.2 with b|⟨g,cap,a,rfl,f,c,d⟩
 ·exact .inl b
 ·exact .inr ⟨g,cap,a,rfl,bP _,c,d⟩
theorem sS {w:World} {tag:Nat->Nat} {t O I s n g:Nat} {i:Nat} {v:Value} {cc:Nat->Nat×List Value} (hv:v=.slice (some ⟨g,0,none⟩) n n) (f:tag g=t) (d:w.ownsRow 0 O 1 v n (List.replicate n (.slice none 0 0))) (a:∀j,j<n->cc j=(0,[])):fx w tag t i O I s n v cc:=by
 subst hv;refine⟨g,List.replicate n (.slice none 0 0),rfl,f,oS,d,fun j b=>?_⟩;have c:j<n:=by simpa using b
 rw[a j c,List.getElem_replicate];exact⟨ct _ _ _ _,fun k e=>by cases e⟩
theorem Wb.box {W:World} {B x:Nat} {X:Nat->Value} {p:PW} (h:Wb W B x X (wN p) (wC p)) (m:∃g,X 4=.slice (some ⟨g,0,none⟩) p.lines.length p.lines.length) (n:∃g,X 7=.slice (some ⟨g,0,none⟩) p.ready.length p.ready.length) (o:∃g,X 8=.slice (some ⟨g,0,none⟩) p.IK.length p.IK.length) (q:X 10=.int .i64 p.time)
  (s:∀l∈p.lines,l=[]) (u:∀l∈p.ready,l=[]) (v:∀l∈p.IK,l=[]):cb W x (Bl X x) X p:=by
 have own:=fun i (hi:i<10)=>Hh (h.r.own i hi);have tg:=fun i (hi:i<10) k (e:(X i).ownBlock=some k)=>h.r.tag hi e;obtain⟨c,e4⟩:=m;obtain⟨d,e7⟩:=n;obtain⟨f,e8⟩:=o;refine⟨h.b,h.t,ag rfl,⟨⟨own 0 oA,tg 0 oA⟩,⟨own 1 oA,tg 1 oA⟩,⟨own 2 oA,tg 2 oA⟩,⟨own 3 oA,tg 3 oA⟩,sS e4 (tg 4 oA c (by rw[e4];rfl)) (own 4 oA) fun j a=>?_,⟨own 5 oA,tg 5 oA⟩,⟨own 6 oA,tg 6 oA⟩,sS e7 (tg 7 oA d (by rw[e7];rfl)) (own 7 oA) fun j a=>?_,(sS e8 (tg 8 oA f (by rw[e8];rfl)) (own 8 oA) fun j a=>?_).e,⟨own 9 oA,tg 9 oA⟩,q⟩⟩
 ·unfold ci;rw[aa,ac a];rw[show (some p.lines[j]).getD []=[] from s _ (av a)];rfl
 ·unfold ci;rw[aa,ac a];rw[show (some p.ready[j]).getD []=[] from u _ (av a)];rfl
 ·unfold ce;rw[aa,ac a];rw[show (some p.IK[j]).getD []=[] from v _ (av a)];rfl
end Wd
namespace Hex
open Go.RowKit Mem Nums Wd
theorem mr {a b:ByteArray} (h:a.data.toList=b.data.toList):a=b:=by
 cases a;cases b
 simp only at h;rw[Array.ext' h]
theorem jw (a:ByteArray):a.size=a.data.toList.length:=rfl
def DQ (c:UInt8):List (List UInt8)->List (List UInt8)
 |[]=>[[c]]
 |p::ps=>(c::p)::ps
def lR (at_:UInt8):List UInt8->List (List UInt8)
 |[]=>[[]]
 |c::s=>if c=at_ then []::lR at_ s else DQ c (lR at_ s)
def ahead (p:List UInt8):List (List UInt8)->List (List UInt8)
 |[]=>[p]
 |q::qs=>(p++q)::qs
theorem sq (a:UInt8) (s:List UInt8):lR a s≠[]:=by
 cases s with
 |nil=>simp[lR]
 |cons c s=>
  rw[lR];split
  ·simp
  ·unfold DQ;split<;>simp
theorem qa (a:UInt8) (s:List UInt8):ahead [] (lR a s)=lR a s:=by
 rcases h:lR a s with _|⟨q,b⟩
 ·exact absurd h (sq a s)
 ·rfl
theorem uQ (p:List UInt8) (c:UInt8) (l:List (List UInt8)):ahead p (DQ c l)=ahead (p++[c]) l:=by
 cases l<;>simp[DQ,ahead]
theorem oO (p:List UInt8) (a c:UInt8) (s:List UInt8) (h:c≠a):ahead p (lR a (c::s))=ahead (p++[c]) (lR a s):=by
 rw[lR,ae h,uQ]
theorem nG (p:List UInt8) (a:UInt8) (s:List UInt8):ahead p (lR a (a::s))=p::lR a s:=by
 rw[lR,ag rfl,ahead];simp
theorem zi (a:UInt8) (s:List UInt8):(lR a s).length<=s.length+1:=by
 induction s with
 |nil=>simp[lR]
 |cons c s ih=>
  rw[lR];split
  ·simp;exact ih
  ·have:(DQ c (lR a s)).length<=s.length+1+1:=by
    unfold DQ;split
    ·simp
    ·rename_i h;rw[h] at ih;simp at ih ⊢;omega
   simpa using this
def kQ (c:UInt8) (s:ByteArray):List ByteArray:=(lR c s.data.toList).map fun l=>⟨l.toArray⟩
end Hex
namespace Prs
open Go.RowKit Mem Nums Hex
abbrev kB (n:Nat):Prop:=48<=n∧n<=57
def yP (l:List UInt8):Nat:=l.foldl (fun n b=>n*10+(b.toNat - 48)) 0
theorem qw (l:List UInt8) (b:UInt8):yP (l++[b])=yP l*10+(b.toNat - 48):=by simp[yP]
abbrev Gj (t:ByteArray):Prop:=t.size≠0∧t.size<=5∧(∀h:0<t.size,t[0].toNat=48->t.size=1)∧∀j (h:j<t.size),kB t[j].toNat
def hJ (t:ByteArray):Int:=if Gj t then yP t.data.toList else -1
theorem Ce {t:ByteArray} (h:Gj t):hJ t=yP t.data.toList:=by unfold hJ;rw[ag h]
theorem AP {t:ByteArray} (h:¬Gj t):hJ t= -1:=by unfold hJ;rw[ae h]
theorem Cd (l:List UInt8) (k:Nat) (h:l.length=k) (c:∀b∈l,b.toNat<=57):yP l<10 ^ k:=by
 induction k generalizing l with
 |zero=>rw[List.length_eq_zero_iff.1 h];decide
 |succ k ih=>
  have a:l≠[]:=by rintro rfl;cases h
  rw[<-List.dropLast_concat_getLast a,qw];have e:=ih l.dropLast (by simp[h]) (fun b d=>c b (List.dropLast_subset l d));have f:=c (l.getLast a) (List.getLast_mem a);rw[Nat.pow_succ];omega
theorem qy (t:ByteArray) (k:Nat) (hk:k<=t.size) (l:t.size<=5) (d:∀j (h:j<t.size),j<k->kB t[j].toNat):yP (t.data.toList.take k)<100000:=by
 have a:(t.data.toList.take k).length=k:=by rw[bH, <-jw];omega
 have g:=Cd (t.data.toList.take k) k a (fun b c=>by
  obtain⟨j,e,rfl⟩:=dC c;have f:j<t.size:=by rw[jw];rw[bH] at e;omega
  have:=d j f oA;rw[List.getElem_take];exact this.2)
 have i:(10:Nat) ^ k<=10 ^ 5:=Nat.pow_le_pow_right oD oA;omega
def gy (s:ByteArray):List ByteArray:=if (kQ 10 s).getLast?=some ⟨#[]⟩ then (kQ 10 s).dropLast else kQ 10 s
end Prs
namespace Hex
open Go.RowKit Mem Nums Wd
def fR (w:World) (b off:Nat) (zs:List ByteArray):Prop:=∀j (h:j<zs.length),w.cell? ⟨b,off+j,none⟩=some (.string zs[j])
theorem Cr:(Tryz.prog.info? 9).map (fun i=>(i.zero,i.size,i.bytes))=some (some (.string ByteArray.empty),1,16):=oK
def strs (l:List (List UInt8)):List Value:=l.map fun p=>.string ⟨p.toArray⟩
theorem uF (s:ByteArray):s=⟨s.data.toList.toArray⟩:=by cases s;simp
theorem vx (s:ByteArray) (a k:Nat) (c:a<=k) (b:k<s.size):(s.extract a (k+1)).data.toList=(s.extract a k).data.toList++[s[k]]:=by
 rw[Lib.extract_data,Lib.extract_data];have e:k+1 - a=k - a+1:=oA;rw[e,List.take_add_one,dL,show a+(k - a)=k by omega];rw[ac (by simpa using b)];rfl
theorem oz (s:ByteArray) (a:Nat):(s.extract a a).data.toList=[]:=by
 rw[Lib.extract_data];simp
theorem Ag {w:World} {B:Nat} {v:Value} {l:List (List UInt8)} (h:w.ownsRow B 9 1 v l.length (strs l)) (a:l≠[]):
  ∃b cap,v=.slice (some ⟨b,0,none⟩) l.length cap∧fR w b 0 (l.map fun p=>⟨p.toArray⟩)∧l.length<=cap:=by
 rcases h.2 with ⟨_,c⟩|⟨g,cap,i,rfl,_,_,f,_⟩
 ·exact absurd (List.length_eq_zero_iff.1 c) a
 ·refine⟨g,cap,rfl,fun j d=>?_,f⟩;have e:j<l.length:=by simpa using d
  rw[aC,h.cellAt j oA];simp[strs,List.getElem?_eq_getElem e]
theorem wh (s:ByteArray) (c:UInt8) (w:World) (T:s.size<=100000):
  Calls Tryz.prog 169 #[.string s,.int .u8 c.toNat] w fun e w'=>∃b cap,e=.returned (.slice (some ⟨b,0,none⟩) (kQ c s).length cap)∧fR w' b 0 (kQ c s)∧Below w.heap.size w w'∧(kQ c s).length<=cap:=by
 obtain⟨i0,hi,A,B,C⟩:=info_parts Cr;go_enter Tryz.func169,Tryz.ntmps169
 go_wp2_with fail
 go_loopw [5,6,7] (fun v f i wr=>∃(k a:Nat) (done:List (List UInt8)),k<=s.size∧a<=k∧done.length<=k∧i=.int .i64 k∧f=.int .i64 a∧wr.ownsRow w.heap.size 9 1 v done.length (strs done)∧Below w.heap.size w wr∧done++ahead (s.extract a k).data.toList (lR c (s.data.toList.drop k))=lR c s.data.toList) (fun _ _ i _=>s.size - (intOf i).toNat)
 case atStart=>exact⟨0,0,[],oA,oA,oS,rfl,rfl,ct _ _ _ _,af _ _,by rw[oz];simp[qa]⟩
 case round=>
  obtain⟨k,a,done,hk,M,Q,rfl,rfl,K,hB,J⟩:=hrel;have g:=hid K;have d:=hid hB;have o:=hid J;by_cases y:k<s.size
  ·have S:(k:Int)<(s.size:Int):=oA;have t:=hid (show s.data.toList.drop k=s[k]::s.data.toList.drop (k+1) from List.drop_eq_getElem_cons (by simpa using y));have H:=hid (vx s a k M y);have N:(a:Int)<=(k:Int):=oA;by_cases h:s[k]=c
   ·have O:((s[k].toNat:Int)==(c.toNat:Int))=true:=by rw[h];simp
    have n:=hid h;go_wp2_with (at_builtin;refine aY _ rfl _ _ 150 rfl w.heap.size 9 i0 (.string ByteArray.empty) 1 16 Tryz.underlying150 hi A B C rfl oD _ _ _ rfl (g.alloc _) ⟨wr.heap.size,0,none⟩ 1 1 [.string (s.extract a k)] rfl rfl ?c1 ?c2 ?c3 ?c4 ?c5 ?_)
    case c1=>
     intro j u l
     match j,l with
     |0,l=>simp at l;subst l;simp[Addr.add]
    case c2=>intro u z;simp at z;subst z;rfl
    case c3=>unfold maxLen;omega
    case c4=>omega
    case c5=>have:=d.size;simp;omega
    intro D w2 r q _;have m:=hid ((bal d _).grown q (by have:=d.size;simp;omega) (fun k hk=>(g.lt k hk).1));have p:=hid r;go_wp2_with fail
    refine⟨⟨k+1,k+1,done++[(s.extract a k).data.toList],oA,oA,by simp;omega,by go_num,by go_num,?_,m.out,?_⟩,by simp[intOf];omega⟩
    ·have e:=p.out;simp only[strs,eD,ax,cd,eQ,dY,List.length_nil];rw[<-uF];exact e
    ·rw[oz,qa,List.append_assoc, <-o.out,t.out,n.out,nG];rfl
   ·have O:((s[k].toNat:Int)==(c.toNat:Int))=false:=by
     rw[beq_eq_false_iff_ne];intro e;exact h (UInt8.toNat_inj.1 oA)
    have n:=hid h;go_wp2_with fail
    refine⟨⟨k+1,a,done,oA,oA,oA,by go_num,rfl,g.out,d.out,?_⟩,by simp[intOf];omega⟩;rw[H.out, <-oO _ _ _ _ n, <-t.out];exact o
  ·obtain rfl:k=s.size:=oA;have R:¬((s.size:Int)<(s.size:Int)):=oA;have N:(a:Int)<=(s.size:Int):=oA;have E:=o.out;rw[List.drop_eq_nil_of_le (by rw[Array.length_toList];exact aq _),lR,ahead,dJ] at E;have F:=hid E;go_wp2_with (at_builtin;refine aY _ rfl _ _ 150 rfl w.heap.size 9 i0 (.string ByteArray.empty) 1 16 Tryz.underlying150 hi A B C rfl oD _ _ _ rfl (g.alloc _) ⟨wr.heap.size,0,none⟩ 1 1 [.string (s.extract a s.size)] rfl rfl ?c1 ?c2 ?c3 ?c4 ?c5 ?_)
   case c2=>rfl
   case c3=>unfold maxLen;omega
   case c4=>omega
   case c5=>have:=d.size;simp;omega
   intro D w2 r q _;have m:=hid ((bal d _).grown q (by have:=d.size;simp;omega) (fun k hk=>(g.lt k hk).1));have p:w2.ownsRow w.heap.size 9 1 D (lR c s.data.toList).length (strs (lR c s.data.toList)):=by
    rw[<-F.out];simp only[strs,eD,ax,cd,eQ,dY,List.length_nil];rw[<-uF];exact r
   obtain⟨b,cap,rfl,L,P⟩:=Ag p (sq _ _);have I:=hid L;have G:=hid P;go_wp2_with fail
   go_ret
   have x:(kQ c s).length=(lR c s.data.toList).length:=by simp[kQ]
   exact⟨b,cap,by rw[x];rfl,I.out,m.out,by rw[x];exact G⟩
end Hex
namespace Prs
open Go.RowKit Mem Nums Hex
theorem t5 {s:ByteArray} (h:s.size=0):s.toList.isEmpty=true:=by
 rw[List.isEmpty_iff,ByteArray.toList_eq, <-List.length_eq_zero_iff];exact h
theorem lj {s:ByteArray} (h:s.size≠0):s.toList.isEmpty=false:=by
 rw[<-Bool.not_eq_true];intro e;rw[List.isEmpty_iff,ByteArray.toList_eq, <-List.length_eq_zero_iff] at e;exact h e
theorem ss (t:ByteArray) (w:World) (h:t.size=0∨5<t.size∨∃h:0<t.size,t[0].toNat=48∧1<t.size):
  Calls Tryz.prog 253 #[.string t] w fun e w'=>e=.returned (.int .i64 (hJ t))∧Below w.heap.size w w':=by
 rw[AP (t:=t) (fun e=>by
  obtain⟨a,b,c,_⟩:=e;rcases h with h|h|⟨f,h,g⟩
  ·omega
  ·omega
  ·have:=c f h;omega)]
 by_cases d:t.size=0
 ·have i:=t5 d;go_enter Tryz.func253,Tryz.ntmps253
  go_wp2_with fail
  go_ret
  exact⟨rfl,af _ _⟩
 ·have i:=lj d;by_cases k:(5:Int)<(t.size:Int)
  ·clear h;go_enter Tryz.func253,Tryz.ntmps253
   go_wp2_with fail
   go_ret
   exact⟨rfl,af _ _⟩
  ·have f:0<t.size:=oA;have m:(0:Int)<(t.size:Int):=oA;obtain⟨hl,g⟩:t[0].toNat=48∧1<t.size:=by
    rcases h with h|h|⟨_,h⟩
    ·omega
    ·omega
    ·exact h
   have l:(t[0].toNat:Int)=48:=oA;have j:(1:Int)<(t.size:Int):=oA;go_enter Tryz.func253,Tryz.ntmps253
   go_wp2_with fail
   go_ret
   exact⟨rfl,af _ _⟩
theorem uY (t:ByteArray) (w:World):
  Calls Tryz.prog 253 #[.string t] w fun e w'=>e=.returned (.int .i64 (hJ t))∧Below w.heap.size w w':=by
 by_cases hh:t.size=0∨5<t.size∨∃h:0<t.size,t[0].toNat=48∧1<t.size
 ·exact ss t w hh
 have u:=lj (s:=t) oA;have r:¬(5:Int)<(t.size:Int):=oA;have q:0<t.size:=oA;have B:(0:Int)<(t.size:Int):=oA;have hl:t[0].toNat=48->t.size=1:=fun e=>by
  by_cases a:t.size=1
  ·exact a
  ·exact absurd (.inr (.inr ⟨q,e,oA⟩)) hh
 have a:((t[0].toNat:Int)=48∧¬(1:Int)<(t.size:Int))∨((t[0].toNat:Int)≠48):=oA;have l:=hid hl;rcases a with ⟨a,d⟩|a
 all_goals
  go_enter Tryz.func253,Tryz.ntmps253
  go_wp2_with fail
  go_loopw [3,4] (fun v i wr=>∃k:Nat,k<=t.size∧i=.int .i64 k∧v=.int .i64 (yP (t.data.toList.take k))∧(∀j (h:j<t.size),j<k->kB t[j].toNat)∧wr=w) (fun _ i _=>t.size - (intOf i).toNat)
  case atStart=>exact⟨0,oA,rfl,rfl,fun j _ h=>oA,rfl⟩
  case round=>
   obtain⟨k,hk,rfl,rfl,f,rfl⟩:=hrel;have c:=hid f;have A:=qy t k hk oA f;by_cases g:k<t.size
   ·have z:(k:Int)<(t.size:Int):=oA;have o:=hid (show t.data.toList.take (k+1)=t.data.toList.take k++[t[k]] from bG (by simpa using g));have b:=hid (show ¬kB t[k].toNat->hJ t= -1 from fun h=>AP fun e=>h (e.2.2.2 k g));have n:=hid (show kB t[k].toNat->∀j (h:j<t.size),j<k+1->kB t[j].toNat from fun h j p y=>by
      by_cases e:j=k
      ·subst e;exact h
      ·exact c j p oA)
    have a:((t[k].toNat:Int)<48)∨(¬(t[k].toNat:Int)<48∧(57:Int)<t[k].toNat)∨(¬(t[k].toNat:Int)<48∧¬(57:Int)<t[k].toNat):=oA;rcases a with a|⟨a,d⟩|⟨a,d⟩
    ·go_wp2_with fail
     go_ret
     exact⟨by rw[b.out (by unfold kB;omega)];rfl,af _ _⟩
    ·go_wp2_with fail
     go_ret
     exact⟨by rw[b.out (by unfold kB;omega)];rfl,af _ _⟩
    ·go_wp2_with fail
     refine⟨⟨k+1,oA,by go_num,?_,n.out (by unfold kB;omega),trivial⟩,by simp[intOf];omega⟩;rw[o.out,qw]
     go_num
   ·obtain rfl:k=t.size:=oA;have x:¬((t.size:Int)<(t.size:Int)):=oA;have b:=hid (Ce ⟨oA,oA,fun _=>l.out,fun j h=>c.out j h h⟩);have m:=hid (show yP (t.data.toList.take t.size)=yP t.data.toList by rw[jw,cO]);go_wp2_with fail
    go_ret
    exact⟨by rw[b.out, <-m.out];rfl,af _ _⟩
def qY (zs:List ByteArray):List ByteArray:=if zs.getLast?=some ⟨#[]⟩ then zs.dropLast else zs
theorem xw (s:ByteArray):gy s=qY (kQ 10 s):=rfl
theorem Cz {zs:List ByteArray} {L:Nat} (a:zs.length=L+1):∃zl,zs.getLast?=some zl∧∀h:L<zs.length,zs[L]=zl:=by
 have h:L<zs.length:=oA;refine⟨zs[L],?_,fun _=>rfl⟩;have e:zs.length - 1=L:=oA;rw[List.getLast?_eq_getElem?,e,ac h]
theorem vn {zs:List ByteArray} {a:ByteArray} (hl:zs.getLast?=some a) (h:a.size=0):qY zs=zs.dropLast:=by
 have e:a=⟨#[]⟩:=by
  apply mr;rw[jw] at h;rw[List.length_eq_zero_iff.1 h]
 unfold qY;rw[hl,e,ag rfl]
theorem xx {zs:List ByteArray} {a:ByteArray} (hl:zs.getLast?=some a) (h:a.size≠0):qY zs=zs:=by
 unfold qY;rw[hl,ae];intro e;have:=aK e;rw[this] at h;exact h rfl
theorem fR.drop {w:World} {b:Nat} {zs:List ByteArray} (h:fR w b 0 zs):fR w b 0 zs.dropLast:=fun j a=>by
 have c:j<zs.length:=by simp at a;omega
 rw[h j c];simp
theorem rB (s:ByteArray) (w:World) (u:s.size<=100000):
  Calls Tryz.prog 168 #[.string s] w fun e w'=>∃b cap,e=.returned (.slice (some ⟨b,0,none⟩) (gy s).length cap)∧fR w' b 0 (gy s)∧Below w.heap.size w w':=by
 rw[xw];have n:=hid (wh s 10 w u);have p:=hid (show ∃L,(kQ 10 s).length=L+1 by
  have:(kQ 10 s)≠[]:=by unfold kQ;simp[sq]
  exact⟨(kQ 10 s).length - 1,by have:=List.length_pos_iff.2 this;omega⟩)
 have o:=hid (show (kQ 10 s).length<=100001 by
  have:=zi 10 s.data.toList;rw[<-jw] at this;simp only[kQ,bL];omega)
 generalize kQ 10 s=zs at*;obtain⟨L,d⟩:=p.out;have z:L<=100000:=by have:=o.out;omega
 go_enter Tryz.func168,Tryz.ntmps168
 go_wp2_with fail
 refine n.mono ?_;rintro e w1 ⟨m,f,rfl,l,r,A⟩;have j:=hid l;have g:=hid r;have B:(L:Int)+1<=(f:Int):=oA;obtain⟨y,x,v⟩:=Cz d;have k:L<zs.length:=oA;have q:=l L k;rw[aC,v k] at q;have h:=hid d;have i:=hid x;rw[d];by_cases c:y.size=0
 ·have a:=hid (vn i c);have t:=t5 c;go_wp2_with fail
  go_ret
  refine⟨m,f,?_,?_,g.out⟩
  ·rw[a.out,List.length_dropLast,h.out];rfl
  ·rw[a.out];exact fR.drop j
 ·have a:=hid (xx i c);have t:=lj c;go_wp2_with fail
  go_ret
  refine⟨m,f,?_,?_,g.out⟩
  ·rw[a.out,h.out];rfl
  ·rw[a.out];exact j
end Prs
namespace Wd
open Go.RowKit Mem Bw Nums Mmu Hex
def gf (t:ByteArray):Bool:=decide (t=(⟨#[45]⟩:ByteArray))||decide (0<=Prs.hJ t)
theorem jQ {P:Program} {w w':World} {ops:Array Oper} {rest:List Oper} {o:Oper} {a:Act} {Q:Exit->Act->World->Prop} (d:o.guard=none) (s x:Operand) (t:TypeId)
  (e:o.op=.call {callee:=.builtin .append,args:=#[s,x],argTypes:=#[t,t]}) (v u b:Value) (g:a.eval s=v) (i:a.eval x=u) (f:(Builtin.append_ #[t,t] o.type #[v,u]).run P w=.ok b w')
  (h:wpList P ops Q rest (a.put o.dst b) w'):wpList P ops Q (o::rest) a w:=by
 refine wpList_plain d fun K c=>?_;unfold Oper.wp;simp[execOp,e,resolve,invoke,builtin,g,i,f,Result.andThen];exact c _ _ h
theorem fJ {B e size n:Nat} {w:World} {v:Value} {xs:List Value} (h:w.ownsRow B e size v n xs):∃q c,v=.slice q n c:=by
 rcases h.2 with ⟨rfl,rfl⟩|⟨g,cap,a,rfl,_⟩
 ·exact⟨_,_,rfl⟩
 ·exact⟨_,_,rfl⟩
theorem Gm {w wr:World} {zs:List Int} {n:Nat} {y:Int} {h:Option Addr} {cu:Nat} (hB:Below w.heap.size w wr) (hl:n<=1000) (m:zs.length=n) (f:wr.ownsRow w.heap.size 3 1 (.slice h n cu) n (dU zs)):
  ∃q c w',(Builtin.append_ #[22,22] 22 #[.slice h n cu,.slice (some ⟨wr.heap.size,0,none⟩) 1 1]).run Tryz.prog (wr.alloc (.cells #[.int .i64 y] 3))=.ok (.slice q (n+1) c) w'∧w'.ownsRow w.heap.size 3 1 (.slice q (n+1) c) (n+1) (dU (zs++[y]))∧Below w.heap.size w w':=by
 subst m;have b:=bal (af wr.heap.size wr) (.cells #[.int .i64 y] 3);have g:=aB hB.size b.size;obtain⟨i,hi,s,p,r⟩:=fj kD;obtain⟨t,w',o,d,l,_⟩:=run_append_own (P:=Tryz.prog) (wr.alloc (.cells #[.int .i64 y] 3)) w.heap.size 22 22 3 i (.int .i64 0) 1 8 Tryz.underlying22 hi s p r rfl oD _ _ _ (fI f b) ⟨wr.heap.size,0,none⟩ 1 1 [.int .i64 y] rfl (fun j v a=>by
  match j,a with
  |0,a=>cases a;exact cq wr #[.int .i64 y] 3 0
  |j+1,a=>simp at a) (Fb y) (by unfold maxLen;omega) oA g
 obtain⟨q,c,rfl⟩:=fJ d;have e:dU zs++[Value.int .i64 y]=dU (zs++[y]):=by unfold dU;simp
 exact⟨q,c,w',o,by rw[<-e];exact d,(btr hB b).grown l g (fun k hk=>(f.lt k hk).1)⟩
theorem fR.Jq {w w':World} {b off:Nat} {zs:List ByteArray} (h:fR w b off zs) (c:Below w.heap.size w w'):fR w' b off zs:=
 fun j a=>(c.cell (aj _ _ (h j a))).trans (h j a)
theorem j0 {w:World} {B n:Nat} {v:Value} {zs:List Int} (h:w.ownsRow B 3 1 v n (dU zs)) (f:zs.length=n) (a:0<n):∃g cap,v=.slice (some ⟨g,0,none⟩) n cap∧n<=cap∧B<=g∧fW w g 0 zs:=by
 subst f;obtain⟨q,b,off,cap,e,i,hi⟩:=dN h;rcases h.2 with ⟨_,l⟩|⟨g,j,k,rfl,c,_,d,_⟩
 ·omega
 ·cases e
  have:=i a
  cases this
  exact⟨b,cap,rfl,d,c,hi⟩
theorem iU (b off cap:Nat) (l:List ByteArray) (w:World) (J:fR w b off l) (K:∀t∈l,gf t=true) (hl:l.length<=100):
  Calls Tryz.prog 221 #[.slice (some ⟨b,off,none⟩) l.length cap] w fun r w'=>∃u,r=.returned (.tuple #[u,.int .i64 0])∧w'.ownsRow w.heap.size 3 1 u l.length (dU (l.map Prs.hJ))∧Below w.heap.size w w':=by
 have G:=hid J;have E:=hid K;have Q:(l.length:Int)<=100:=oA;go_enter Tryz.func221,Tryz.ntmps221
 go_wp2_with fail
 go_loopw [4,5] (fun u i wr=>∃(k:Nat) (a:Option Addr) (cu:Nat),k<=l.length∧i=.int .i64 k∧u=.slice a k cu∧Hid (wr.ownsRow w.heap.size 3 1 (.slice a k cu) k (dU ((l.take k).map Prs.hJ)))∧Hid (Below w.heap.size w wr)) (fun _ i _=>l.length - (intOf i).toNat)
 case atStart=>exact⟨0,none,0,oA,rfl,rfl,hid (ct _ _ _ _),hid (af _ _)⟩
 case round=>
  obtain⟨k,a,cu,hk,rfl,rfl,g,e⟩:=hrel;by_cases n:k<l.length
  rotate_left
  ·obtain rfl:l.length=k:=oA;have P:¬((l.length:Int)<(l.length:Int)):=oA;have v:=g.out;rw[cO] at v;have j:=hid v;go_wp2_with fail
   go_ret2
   exact⟨_,rfl,j.out,e.out⟩
  have R:(k:Int)<(l.length:Int):=oA;have x:=(fR.Jq G e) k n;have f:=hid (show (l.take (k+1)).map Prs.hJ=(l.take k).map Prs.hJ++[Prs.hJ l[k]] by rw[bG n,eD];rfl);have F:=hid (E.out l[k] (av n));have p:=hid (show ((l.take k).map Prs.hJ).length=k by rw[bL,bH];omega);have D:=hid (Prs.uY l[k] wr);generalize l[k]=t at*;generalize (l.take k).map Prs.hJ=zs at g f p ⊢;go_wp2_with fail
  refine D.mono ?_;rintro r B ⟨rfl,m⟩;have C:=hid (btr e m);have j:=hid (fI g m);have M:=(m.cell (aj _ _ x)).trans x;obtain⟨d,c,w',L,H,I⟩:=Gm (y:=Prs.hJ t) C oA p j;have s:=hid L;have q:=hid H;have o:=hid I;by_cases A:t=⟨#[45]⟩
  ·subst A;go_wp2_with (first|(at_builtin;refine jQ rfl _ _ 22 rfl (.slice a k cu) (.slice (some ⟨B.heap.size,0,none⟩) 1 1) (.slice d (k+1) c) rfl rfl s ?_))
   exact⟨⟨k+1,d,c,oA,by go_num,rfl,hid (by rw[f.out];exact q),o⟩,by simp[intOf];omega⟩
  ·have N:0<=Prs.hJ t:=by
    have:=F.out;unfold gf at this;rw[cF] at this;rcases this with h|h
    ·exact absurd (aA h) A
    ·exact aA h
   have O:=aw oA;generalize Prs.hJ t=z at*;go_wp2_with (first|(at_builtin;refine jQ rfl _ _ 22 rfl (.slice a k cu) (.slice (some ⟨B.heap.size,0,none⟩) 1 1) (.slice d (k+1) c) rfl rfl s ?_))
   all_goals exact⟨⟨k+1,d,c,oA,by go_num,rfl,hid (by rw[f.out];exact q),o⟩,by simp[intOf];omega⟩
