/- Qaw -/
import Derived.Deep.AppendLies
import Derived.Lib.Split
import Derived.Lib.SplitLaws
import Derived.Laws.OwnMore
import Derived.OwnWalk
import Derived.Deep.QuietTactic
import Derived.BigQuiet
import Derived.Test.YtaejnmmpddbbjaaGreatDoorQai
namespace Go.Proofs.YtaejnmmpddbbjaaGreatDoor.Wd
open Go.RowKit Mem Bw Nums Mmu
def wE:Nat→TypeId
 |2=>80
 |3=>45
 |4=>22
 |7=>22
 |8=>31
 |_=>3
def wS:Nat→Nat
 |2=>7
 |3=>20
 |_=>1
def ud {α:Type} (f:Nat→α) (i:Nat) (v:α):Nat→α:=fun j=>if j=i then v else f j
theorem ud_at {α:Type} (f:Nat→α) (i:Nat) (v:α):ud f i v i=v:=ag rfl
theorem ud_ne {α:Type} (f:Nat→α) {i j:Nat} (v:α) (h:j≠i):ud f i v j=f j:=ae h
structure Wr (W:World) (B x:Nat) (X:Nat→Value) (nn:Nat→Nat) (c:Nat→List Value):Prop where
 lt:x<W.heap.size
 own:∀i,i<10→W.ownsRow B (wE i) (wS i) (X i) (nn i) (c i)
 dj:∀i j,i<10→j<10→i≠j→∀k,(X i).ownBlock=some k→(X j).ownBlock≠some k
 nx:∀i,i<10→(X i).ownBlock≠some x
theorem Wr.kp {W a:World} {T:Nat→Prop} {B x:Nat} {X:Nat→Value} {nn:Nat→Nat} {c:Nat→List Value} (h:Wr W B x X nn c) (hk:Kp T W a) (b:∀i,i<10→∀k,(X i).ownBlock=some k→¬T k):Wr a B x X nn c:=
 ⟨aB h.lt hk.size,fun i hi=>own_kp (h.own i hi) hk (b i hi),h.dj,h.nx⟩
theorem kp_grownR {W W':World} {row:Option Nat} (h:W.grownBy W' row):Kp (fun k=>row=some k) W W':=⟨h.os,h.tape,h.output,h.size,fun k hk a=>h.block k hk fun e=>a e.symm⟩
theorem Wr.app {W:World} {B x:Nat} {X:Nat→Value} {nn:Nat→Nat} {c:Nat→List Value} (h:Wr W B x X nn c) (hB:B≤W.heap.size) {i:Nat} (hi:i<10) {T:TypeId} {z:Value} {bytes:Nat} (C:Tryz.prog.underlying T=some (.slice (wE i))) (G:(Tryz.prog.info? (wE i)).map (fun i=>(i.zero,i.size,i.bytes))=some (some z,wS i,bytes)) (S:z.cells.size=wS i) (O:0<wS i) (D:bytes≤1000)
  (o:Addr) (m t:Nat) (n:List Value) (hl:n.length=m*wS i) (K:∀j u,n[j]? =some u→W.cell? (o.add j)=some u) (A:∀u∈n,u.oneCell'=true) (I:0<m) (J:nn i+m≤1000):
  ∃g cap w',(Builtin.append_ #[T,T] T #[X i,.slice (some o) m t]).run Tryz.prog W=.ok (.slice (some ⟨g,0,none⟩) (nn i+m) cap) w'∧Wr w' B x (ud X i (.slice (some ⟨g,0,none⟩) (nn i+m) cap)) (ud nn i (nn i+m)) (ud c i (c i++n))∧Kp (fun k=>(X i).ownBlock=some k) W w'∧((X i).ownBlock=some g∨g=W.heap.size):=by
 obtain⟨f,E,R,N,Q⟩:=info_get G;have U:(nn i+m)*bytes≤1000*1000:=Nat.mul_le_mul J D;obtain⟨g,cap,w',M,L,w,q,V⟩:=run_append_lies (P:=Tryz.prog) W T T B (wE i) f z (wS i) bytes C E R N Q S O (X i) (nn i) (c i) (h.own i hi) o m t n hl K A I (by unfold maxLen;omega) (by omega) hB W.heap.size rfl;have y:=kp_grownR w;have s:(Value.slice (some ⟨g,0,none⟩) (nn i+m) cap).ownBlock=some g:=rfl;have far:∀j,j<10→j≠i→(X j).ownBlock≠some g:=fun j a H e=>by
  rcases q with d|d
  ·exact h.dj i j hi a (Ne.symm H) g d e
  ·have:=((h.own j a).lt g e).2;omega
 refine⟨g,cap,w',M,⟨aB h.lt w.size,fun j a=>?_,fun j k a hk r b l=>?_,fun j a=>?_⟩,y,q⟩
 ·by_cases e:j=i
  ·subst e;rw[ud_at,ud_at,ud_at];exact L
  ·rw[ud_ne _ _ e,ud_ne _ _ e,ud_ne _ _ e];exact own_kp (h.own j a) y fun k hk F=>h.dj i j hi a (Ne.symm e) k F hk
 ·by_cases p:j=i
  ·subst p;rw[ud_at,s] at l;rw[ud_ne _ _ (Ne.symm r), ←l];exact far k hk (Ne.symm r)
  ·rw[ud_ne _ _ p] at l;by_cases v:k=i
   ·subst v;rw[ud_at,s];intro e;rw[←e] at l;exact far j a p l
   ·rw[ud_ne _ _ v];exact h.dj j k a hk r b l
 ·by_cases e:j=i
  ·subst e;rw[ud_at,s];intro e;have e:g=x:=by simpa using e
   rcases q with d|d
   ·rw[e] at d;exact h.nx j a d
   ·have:=h.lt;omega
  ·rw[ud_ne _ _ e];exact h.nx j a
structure Wb (W:World) (B x:Nat) (X:Nat→Value) (nn:Nat→Nat) (c:Nat→List Value):Prop where
 r:Wr W B x X nn c
 b:W.rangeAt x 0 (arr11 X).toList
 t:W.there x 0 11
theorem Wb.next {W d:World} {B x:Nat} {X:Nat→Value} {nn:Nat→Nat} {c:Nat→List Value} (h:Wb W B x X nn c) (a:Below W.heap.size W d):Wb d B x X nn c:=
 ⟨h.r.kp (T:=fun _=>False) (.of_below a) (fun _ _ _ _=>id),ef h.b (T:=fun _=>False) (.of_below a) id,dN h.t (T:=fun _=>False) (.of_below a) id⟩
theorem arr11_ud (X:Nat→Value) (i:Nat) (hi:i<10) (v:Value):(arr11 X).toList.set i v=(arr11 (ud X i v)).toList:=by
 match i,hi with
 |0,_=>rfl
 |1,_=>rfl
 |2,_=>rfl
 |3,_=>rfl
 |4,_=>rfl
 |5,_=>rfl
 |6,_=>rfl
 |7,_=>rfl
 |8,_=>rfl
 |9,_=>rfl
 |_+10,h=>omega
theorem Wb.put {W w':World} {B x:Nat} {X:Nat→Value} {nn:Nat→Nat} {c:Nat→List Value} (h:Wb W B x X nn c) {i:Nat} (hi:i<10) {v:Value} {f:Nat→Nat} {a:Nat→List Value} (d:Wr w' B x (ud X i v) f a) (hk:Kp (fun k=>(X i).ownBlock=some k) W w'):
  Wb (w'.setCell ⟨x,i,none⟩ v) B x (ud X i v) f a∧Kp (fun k=>(X i).ownBlock=some k∨k=x) W (w'.setCell ⟨x,i,none⟩ v):=by
 have k2:=(aR (fun k=>k=x) w').setCell (b:=x) (o:=i) (Or.inl rfl) v;refine⟨⟨d.kp k2 fun j g k hk e=>?_,?_,?_⟩,(hk.wider fun k _ e=>.inl e).trans (k2.wider fun k _ e=>.inr e)⟩
 ·subst e;exact d.nx j g hk
 ·have l:=ef h.b hk (h.r.nx i hi);rw[←arr11_ud X i hi v];exact range_set l (by show i<11;omega) v
 ·exact there_set (dN h.t hk (h.r.nx i hi)) _ v
def wN (p:PW):Nat→Nat
 |0=>p.ram.length
 |1=>p.kinds.length
 |2=>p.slots.length
 |3=>p.tasks.length
 |4=>p.lines.length
 |5=>p.bits.length
 |6=>p.cores.length
 |7=>p.ready.length
 |8=>p.tlbs.length
 |9=>p.doms.length
 |_=>0
def wC (p:PW):Nat→List Value
 |0=>ints p.ram
 |1=>ints p.kinds
 |2=>rowsC 7 p.slots
 |3=>rowsC 20 p.tasks
 |4=>List.replicate p.lines.length (.slice none 0 0)
 |5=>ints p.bits
 |6=>ints p.cores
 |7=>List.replicate p.ready.length (.slice none 0 0)
 |8=>List.replicate p.tlbs.length (.slice none 0 0)
 |9=>ints p.doms
 |_=>[]
def tagN' (X:Nat→Value) (k:Nat):Nat→Nat
 |0=>0
 |n+1=>if (X n).ownBlock=some k then n+2 else tagN' X k n
def tagW (X:Nat→Value) (x k:Nat):Nat:=if k=x then 1 else tagN' X k 10
theorem tagN_at {X:Nat→Value} {k i:Nat} (hk:(X i).ownBlock=some k):∀n,i<n→(∀j,j<n→j≠i→(X j).ownBlock≠some k)→tagN' X k n=i+2
 |0,h,_=>by omega
 |n+1,h,hd=>by
  unfold tagN';by_cases e:n=i
  ·subst e;rw[ag hk]
  ·rw[ae (hd n (by omega) e)];exact tagN_at hk n (by omega) fun j b a=>hd j (by omega) a
theorem Wr.tag {W:World} {B x:Nat} {X:Nat→Value} {nn:Nat→Nat} {c:Nat→List Value} (h:Wr W B x X nn c) {i:Nat} (hi:i<10) {k:Nat} (hk:(X i).ownBlock=some k):tagW X x k=i+2:=by
 unfold tagW;rw[ae (show ¬k=x from fun e=>h.nx i hi (by rw[←e];exact hk))];exact tagN_at hk 10 hi fun j a b=>h.dj i j hi a (Ne.symm b) k hk
theorem own_0 {W:World} {B e size n:Nat} {v:Value} {xs:List Value} (h:W.ownsRow B e size v n xs):W.ownsRow 0 e size v n xs:=by
 refine⟨h.1,?_⟩;rcases h.2 with b|⟨g,cap,a,rfl,f,c,d⟩
 ·exact .inl b
 ·exact .inr ⟨g,cap,a,rfl,bI _,c,d⟩
theorem nils_in {w:World} {tag:Nat→Nat} {t O I s n g:Nat} {i:Nat} {v:Value} {cc:Nat→Nat×List Value} (h:v=.slice (some ⟨g,0,none⟩) n n) (f:tag g=t) (d:w.ownsRow 0 O 1 v n (List.replicate n (.slice none 0 0))) (a:∀j,j<n→cc j=(0,[])):ListT w tag t i O I s n v cc:=by
 subst h;refine⟨g,List.replicate n (.slice none 0 0),rfl,f,by simp,d,fun j b=>?_⟩;have c:j<n:=by simpa using b
 rw[a j c,List.getElem_replicate];exact⟨cT _ _ _ _,fun k e=>by cases e⟩
theorem Wb.box {W:World} {B x:Nat} {X:Nat→Value} {p:PW} (h:Wb W B x X (wN p) (wC p)) (m:∃g,X 4=.slice (some ⟨g,0,none⟩) p.lines.length p.lines.length) (n:∃g,X 7=.slice (some ⟨g,0,none⟩) p.ready.length p.ready.length) (o:∃g,X 8=.slice (some ⟨g,0,none⟩) p.tlbs.length p.tlbs.length) (q:X 10=.int .i64 p.time)
  (s:∀l∈p.lines,l=[]) (u:∀l∈p.ready,l=[]) (v:∀l∈p.tlbs,l=[]):BoxT W x (tagW X x) X p:=by
 have own:=fun i (hi:i<10)=>own_0 (h.r.own i hi);have tg:=fun i (hi:i<10) k (e:(X i).ownBlock=some k)=>h.r.tag hi e;obtain⟨c,e4⟩:=m;obtain⟨d,e7⟩:=n;obtain⟨f,e8⟩:=o;refine⟨h.b,h.t,ag rfl,⟨⟨own 0 (by omega),tg 0 (by omega)⟩,⟨own 1 (by omega),tg 1 (by omega)⟩,⟨own 2 (by omega),tg 2 (by omega)⟩,⟨own 3 (by omega),tg 3 (by omega)⟩,nils_in e4 (tg 4 (by omega) c (by rw[e4];rfl)) (own 4 (by omega)) fun j a=>?_,⟨own 5 (by omega),tg 5 (by omega)⟩,⟨own 6 (by omega),tg 6 (by omega)⟩,nils_in e7 (tg 7 (by omega) d (by rw[e7];rfl)) (own 7 (by omega)) fun j a=>?_,(nils_in e8 (tg 8 (by omega) f (by rw[e8];rfl)) (own 8 (by omega)) fun j a=>?_).e,⟨own 9 (by omega),tg 9 (by omega)⟩,q⟩⟩
 ·unfold ci;rw[aa,ac a];rw[show (some p.lines[j]).getD []=[] from s _ (aw a)];rfl
 ·unfold ci;rw[aa,ac a];rw[show (some p.ready[j]).getD []=[] from u _ (aw a)];rfl
 ·unfold ce;rw[aa,ac a];rw[show (some p.tlbs[j]).getD []=[] from v _ (aw a)];rfl
end Go.Proofs.YtaejnmmpddbbjaaGreatDoor.Wd
namespace Go.Proofs.YtaejnmmpddbbjaaGreatDoor.Hex
open Go.RowKit Mem Nums Wd
theorem bytes_ext {a b:ByteArray} (h:a.data.toList=b.data.toList):a=b:=by
 cases a;cases b
 simp only at h;rw[Array.ext' h]
theorem size_list (a:ByteArray):a.size=a.data.toList.length:=rfl
def glue (c:UInt8):List (List UInt8)→List (List UInt8)
 |[]=>[[c]]
 |p::ps=>(c::p)::ps
def cutL (at_:UInt8):List UInt8→List (List UInt8)
 |[]=>[[]]
 |c::s=>if c=at_ then []::cutL at_ s else glue c (cutL at_ s)
def ahead (p:List UInt8):List (List UInt8)→List (List UInt8)
 |[]=>[p]
 |q::qs=>(p++q)::qs
theorem cutL_ne (a:UInt8) (s:List UInt8):cutL a s≠[]:=by
 cases s with
 |nil=>simp[cutL]
 |cons c s=>
  rw[cutL];split
  ·simp
  ·unfold glue;split<;>simp
theorem ahead_nil (a:UInt8) (s:List UInt8):ahead [] (cutL a s)=cutL a s:=by
 rcases h:cutL a s with _|⟨q,b⟩
 ·exact absurd h (cutL_ne a s)
 ·rfl
theorem ahead_glue (p:List UInt8) (c:UInt8) (l:List (List UInt8)):ahead p (glue c l)=ahead (p++[c]) l:=by
 cases l<;>simp[glue,ahead]
theorem ahead_step_no (p:List UInt8) (a c:UInt8) (s:List UInt8) (h:c≠a):ahead p (cutL a (c::s))=ahead (p++[c]) (cutL a s):=by
 rw[cutL,ae h,ahead_glue]
theorem ahead_step_yes (p:List UInt8) (a:UInt8) (s:List UInt8):ahead p (cutL a (a::s))=p::cutL a s:=by
 rw[cutL,ag rfl,ahead];simp
theorem cutL_len (a:UInt8) (s:List UInt8):(cutL a s).length≤s.length+1:=by
 induction s with
 |nil=>simp[cutL]
 |cons c s ih=>
  rw[cutL];split
  ·simp;exact ih
  ·have:(glue c (cutL a s)).length≤s.length+1+1:=by
    unfold glue;split
    ·simp
    ·rename_i h;rw[h] at ih;simp at ih ⊢;omega
   simpa using this
def cutB (c:UInt8) (s:ByteArray):List ByteArray:=(cutL c s.data.toList).map fun l=>⟨l.toArray⟩
end Go.Proofs.YtaejnmmpddbbjaaGreatDoor.Hex
namespace Go.Proofs.YtaejnmmpddbbjaaGreatDoor.Prs
open Go.RowKit Mem Nums Hex
abbrev digitP (n:Nat):Prop:=48≤n∧n≤57
def decN (l:List UInt8):Nat:=l.foldl (fun n b=>n*10+(b.toNat - 48)) 0
theorem decN_snoc (l:List UInt8) (b:UInt8):decN (l++[b])=decN l*10+(b.toNat - 48):=by simp[decN]
abbrev DecP (t:ByteArray):Prop:=t.size≠0∧t.size≤5∧(∀h:0<t.size,t[0].toNat=48→t.size=1)∧∀j (h:j<t.size),digitP t[j].toNat
def decV (t:ByteArray):Int:=if DecP t then decN t.data.toList else -1
theorem dec_yes {t:ByteArray} (h:DecP t):decV t=decN t.data.toList:=by unfold decV;rw[ag h]
theorem dec_no {t:ByteArray} (h:¬DecP t):decV t= -1:=by unfold decV;rw[ae h]
theorem decN_lt (l:List UInt8) (k:Nat) (h:l.length=k) (c:∀b∈l,b.toNat≤57):decN l<10 ^ k:=by
 induction k generalizing l with
 |zero=>rw[List.length_eq_zero_iff.1 h];decide
 |succ k ih=>
  have a:l≠[]:=by rintro rfl;cases h
  rw[←List.dropLast_concat_getLast a,decN_snoc];have e:=ih l.dropLast (by simp[h]) (fun b d=>c b (List.dropLast_subset l d));have f:=c (l.getLast a) (List.getLast_mem a);rw[Nat.pow_succ];omega
theorem decN_take_lt (t:ByteArray) (k:Nat) (hk:k≤t.size) (l:t.size≤5) (d:∀j (h:j<t.size),j<k→digitP t[j].toNat):decN (t.data.toList.take k)<100000:=by
 have a:(t.data.toList.take k).length=k:=by rw[bL, ←size_list];omega
 have g:=decN_lt (t.data.toList.take k) k a (fun b c=>by
  obtain⟨j,e,rfl⟩:=dy c;have f:j<t.size:=by rw[size_list];rw[bL] at e;omega
  have:=d j f (by omega);rw[List.getElem_take];exact this.2)
 have i:(10:Nat) ^ k≤10 ^ 5:=Nat.pow_le_pow_right (by decide) (by omega);omega
def linesB (s:ByteArray):List ByteArray:=if (cutB 10 s).getLast?=some ⟨#[]⟩ then (cutB 10 s).dropLast else cutB 10 s
end Go.Proofs.YtaejnmmpddbbjaaGreatDoor.Prs
namespace Go.Proofs.YtaejnmmpddbbjaaGreatDoor.Hex
open Go.RowKit Mem Nums Wd
def StrsAt (w:World) (b off:Nat) (zs:List ByteArray):Prop:=∀j (h:j<zs.length),w.cell? ⟨b,off+j,none⟩=some (.string zs[j])
theorem infoStr:(Tryz.prog.info? 9).map (fun i=>(i.zero,i.size,i.bytes))=some (some (.string ByteArray.empty),1,16):=by kernel_rfl
def strs (l:List (List UInt8)):List Value:=l.map fun p=>.string ⟨p.toArray⟩
theorem str_list (s:ByteArray):s=⟨s.data.toList.toArray⟩:=by cases s;simp
theorem piece_next (s:ByteArray) (a k:Nat) (c:a≤k) (b:k<s.size):(s.extract a (k+1)).data.toList=(s.extract a k).data.toList++[s[k]]:=by
 rw[Lib.extract_data,Lib.extract_data];have e:k+1 - a=k - a+1:=by omega
 rw[e,List.take_add_one,dc,show a+(k - a)=k by omega];rw[ac (by simpa using b)];rfl
theorem piece_none (s:ByteArray) (a:Nat):(s.extract a a).data.toList=[]:=by
 rw[Lib.extract_data];simp
theorem own_strs {w:World} {B:Nat} {v:Value} {l:List (List UInt8)} (h:w.ownsRow B 9 1 v l.length (strs l)) (a:l≠[]):
  ∃b cap,v=.slice (some ⟨b,0,none⟩) l.length cap∧StrsAt w b 0 (l.map fun p=>⟨p.toArray⟩)∧l.length≤cap:=by
 rcases h.2 with ⟨_,c⟩|⟨g,cap,i,rfl,_,_,f,_⟩
 ·exact absurd (List.length_eq_zero_iff.1 c) a
 ·refine⟨g,cap,rfl,fun j d=>?_,f⟩;have e:j<l.length:=by simpa using d
  rw[aC,h.cellAt j (by omega)];simp[strs,List.getElem?_eq_getElem e]
set_option maxHeartbeats 4000000
theorem cut_cap (s:ByteArray) (c:UInt8) (w:World) (T:s.size≤100000):
  Calls Tryz.prog 70 #[.string s,.int .u8 c.toNat] w fun e w'=>∃b cap,e=.returned (.slice (some ⟨b,0,none⟩) (cutB c s).length cap)∧StrsAt w' b 0 (cutB c s)∧Below w.heap.size w w'∧(cutB c s).length≤cap:=by
 obtain⟨i0,hi,F,G,H⟩:=info_parts infoStr;go_enter Tryz.func70,Tryz.ntmps70
 go_wp2_with fail
 go_loopw [5,6,7] (fun v f i wr=>∃(k a:Nat) (done:List (List UInt8)),k≤s.size∧a≤k∧done.length≤k∧i=.int .i64 k∧f=.int .i64 a∧wr.ownsRow w.heap.size 9 1 v done.length (strs done)∧Below w.heap.size w wr∧done++ahead (s.extract a k).data.toList (cutL c (s.data.toList.drop k))=cutL c s.data.toList) (fun _ _ i _=>s.size - (intOf i).toNat)
 case atStart=>exact⟨0,0,[],by omega,by omega,by simp,rfl,rfl,cT _ _ _ _,aj _ _,by rw[piece_none];simp[ahead_nil]⟩
 case round=>
  obtain⟨k,a,done,hk,N,Q,rfl,rfl,z,hB,y⟩:=hrel;have h:=hid z;have d:=hid hB;have r:=hid y;clear z hB y;by_cases C:k<s.size
  ·have S:(k:Int)<(s.size:Int):=by omega
   have t:=hid (show s.data.toList.drop k=s[k]::s.data.toList.drop (k+1) from List.drop_eq_getElem_cons (by simpa using C));have L:=hid (piece_next s a k N C);have O:(a:Int)≤(k:Int):=by omega
   by_cases g:s[k]=c
   ·have P:((s[k].toNat:Int)==(c.toNat:Int))=true:=by rw[g];simp
    have q:=hid g;clear g;go_wp2_with (at_builtin;refine bf _ rfl _ _ 119 rfl w.heap.size 9 i0 (.string ByteArray.empty) 1 16 Tryz.underlying119 hi F G H rfl (by decide) _ _ _ rfl (h.alloc _) ⟨wr.heap.size,0,none⟩ 1 1 [.string (s.extract a k)] rfl rfl ?c1 ?c2 ?c3 ?c4 ?c5 ?_)
    case c1=>
     intro j u o
     match j,o with
     |0,o=>simp at o;subst o;simp[Addr.add]
    case c2=>intro u D;simp at D;subst D;rfl
    case c3=>unfold maxLen;omega
    case c4=>omega
    case c5=>have:=d.size;simp;omega
    intro I w2 m l _;have p:=hid ((bal d _).grown l (by have:=d.size;simp;omega) (fun k hk=>(h.lt k hk).1));have n:=hid m;clear m l;go_wp2_with fail
    refine⟨⟨k+1,k+1,done++[(s.extract a k).data.toList],by omega,by omega,by simp;omega,by go_num,by go_num,?_,p.out,?_⟩,by simp[intOf];omega⟩
    ·have e:=n.out;simp only[strs,dX,av,bV,ep,dU,List.length_nil];rw[←str_list];exact e
    ·rw[piece_none,ahead_nil,List.append_assoc, ←r.out,t.out,q.out,ahead_step_yes];rfl
   ·have P:((s[k].toNat:Int)==(c.toNat:Int))=false:=by
     rw[beq_eq_false_iff_ne];intro e;exact g (UInt8.toNat_inj.1 (by omega))
    have q:=hid g;clear g;go_wp2_with fail
    refine⟨⟨k+1,a,done,by omega,by omega,by omega,by go_num,rfl,h.out,d.out,?_⟩,by simp[intOf];omega⟩;rw[L.out, ←ahead_step_no _ _ _ _ q, ←t.out];exact r
  ·obtain rfl:k=s.size:=by omega
   have R:¬((s.size:Int)<(s.size:Int)):=by omega
   have O:(a:Int)≤(s.size:Int):=by omega
   have E:=r.out;rw[List.drop_eq_nil_of_le (by rw[Array.length_toList];exact au _),cutL,ahead,dB] at E;have J:=hid E;clear E;go_wp2_with (at_builtin;refine bf _ rfl _ _ 119 rfl w.heap.size 9 i0 (.string ByteArray.empty) 1 16 Tryz.underlying119 hi F G H rfl (by decide) _ _ _ rfl (h.alloc _) ⟨wr.heap.size,0,none⟩ 1 1 [.string (s.extract a s.size)] rfl rfl ?c1 ?c2 ?c3 ?c4 ?c5 ?_)
   case c2=>rfl
   case c3=>unfold maxLen;omega
   case c4=>omega
   case c5=>have:=d.size;simp;omega
   intro I w2 m l _;have p:=hid ((bal d _).grown l (by have:=d.size;simp;omega) (fun k hk=>(h.lt k hk).1));have n:w2.ownsRow w.heap.size 9 1 I (cutL c s.data.toList).length (strs (cutL c s.data.toList)):=by
    rw[←J.out];simp only[strs,dX,av,bV,ep,dU,List.length_nil];rw[←str_list];exact m
   obtain⟨b,cap,rfl,A,B⟩:=own_strs n (cutL_ne _ _);have M:=hid A;have K:=hid B;clear m l n A B;go_wp2_with fail
   go_ret
   have x:(cutB c s).length=(cutL c s.data.toList).length:=by simp[cutB]
   exact⟨b,cap,by rw[x];rfl,M.out,p.out,by rw[x];exact K⟩
end Go.Proofs.YtaejnmmpddbbjaaGreatDoor.Hex
namespace Go.Proofs.YtaejnmmpddbbjaaGreatDoor.Prs
open Go.RowKit Mem Nums Hex
set_option maxHeartbeats 200000
theorem is_empty {s:ByteArray} (h:s.size=0):s.toList.isEmpty=true:=by
 rw[List.isEmpty_iff,ByteArray.toList_eq, ←List.length_eq_zero_iff];exact h
theorem not_empty' {s:ByteArray} (h:s.size≠0):s.toList.isEmpty=false:=by
 rw[←Bool.not_eq_true];intro e;rw[List.isEmpty_iff,ByteArray.toList_eq, ←List.length_eq_zero_iff] at e;exact h e
theorem digits_head (t:ByteArray) (w:World) (h:t.size=0∨5<t.size∨∃h:0<t.size,t[0].toNat=48∧1<t.size):
  Calls Tryz.prog 166 #[.string t] w fun e w'=>e=.returned (.int .i64 (decV t))∧Below w.heap.size w w':=by
 rw[dec_no (t:=t) (fun e=>by
  obtain⟨a,b,c,_⟩:=e;rcases h with h|h|⟨f,h,g⟩
  ·omega
  ·omega
  ·have:=c f h;omega)]
 by_cases d:t.size=0
 ·have i:=is_empty d;clear h;go_enter Tryz.func166,Tryz.ntmps166
  go_wp2_with fail
  go_ret
  exact⟨rfl,aj _ _⟩
 ·have i:=not_empty' d;by_cases k:(5:Int)<(t.size:Int)
  ·clear h;go_enter Tryz.func166,Tryz.ntmps166
   go_wp2_with fail
   go_ret
   exact⟨rfl,aj _ _⟩
  ·have f:0<t.size:=by omega
   have m:(0:Int)<(t.size:Int):=by omega
   obtain⟨hl,g⟩:t[0].toNat=48∧1<t.size:=by
    rcases h with h|h|⟨_,h⟩
    ·omega
    ·omega
    ·exact h
   clear h;have l:(t[0].toNat:Int)=48:=by omega
   have j:(1:Int)<(t.size:Int):=by omega
   go_enter Tryz.func166,Tryz.ntmps166
   go_wp2_with fail
   go_ret
   exact⟨rfl,aj _ _⟩
set_option maxHeartbeats 2000000
theorem digits_any (t:ByteArray) (w:World):
  Calls Tryz.prog 166 #[.string t] w fun e w'=>e=.returned (.int .i64 (decV t))∧Below w.heap.size w w':=by
 by_cases hh:t.size=0∨5<t.size∨∃h:0<t.size,t[0].toNat=48∧1<t.size
 ·exact digits_head t w hh
 have u:=not_empty' (s:=t) (by omega);have r:¬(5:Int)<(t.size:Int):=by omega
 have q:0<t.size:=by omega
 have B:(0:Int)<(t.size:Int):=by omega
 have hl:t[0].toNat=48→t.size=1:=fun e=>by
  by_cases a:t.size=1
  ·exact a
  ·exact absurd (.inr (.inr ⟨q,e,by omega⟩)) hh
 have a:((t[0].toNat:Int)=48∧¬(1:Int)<(t.size:Int))∨((t[0].toNat:Int)≠48):=by omega
 have l:=hid hl;clear hh hl;rcases a with ⟨a,f⟩|a
 all_goals
  go_enter Tryz.func166,Tryz.ntmps166
  go_wp2_with fail
  go_loopw [3,4] (fun v i wr=>∃k:Nat,k≤t.size∧i=.int .i64 k∧v=.int .i64 (decN (t.data.toList.take k))∧(∀j (h:j<t.size),j<k→digitP t[j].toNat)∧wr=w) (fun _ i _=>t.size - (intOf i).toNat)
  case atStart=>exact⟨0,by omega,rfl,rfl,fun j _ h=>by omega,rfl⟩
  case round=>
   obtain⟨k,hk,rfl,rfl,c,rfl⟩:=hrel;have d:=hid c;have A:=decN_take_lt t k hk (by omega) c;clear c a;by_cases g:k<t.size
   ·have z:(k:Int)<(t.size:Int):=by omega
    have o:=hid (show t.data.toList.take (k+1)=t.data.toList.take k++[t[k]] from bD (by simpa using g));have b:=hid (show ¬digitP t[k].toNat→decV t= -1 from fun h=>dec_no fun e=>h (e.2.2.2 k g));have n:=hid (show digitP t[k].toNat→∀j (h:j<t.size),j<k+1→digitP t[j].toNat from fun h j p y=>by
      by_cases e:j=k
      ·subst e;exact h
      ·exact d j p (by omega))
    have a:((t[k].toNat:Int)<48)∨(¬(t[k].toNat:Int)<48∧(57:Int)<t[k].toNat)∨(¬(t[k].toNat:Int)<48∧¬(57:Int)<t[k].toNat):=by omega
    rcases a with a|⟨a,f⟩|⟨a,f⟩
    ·go_wp2_with fail
     go_ret
     exact⟨by rw[b.out (by unfold digitP;omega)];rfl,aj _ _⟩
    ·go_wp2_with fail
     go_ret
     exact⟨by rw[b.out (by unfold digitP;omega)];rfl,aj _ _⟩
    ·go_wp2_with fail
     refine⟨⟨k+1,by omega,by go_num,?_,n.out (by unfold digitP;omega),trivial⟩,by simp[intOf];omega⟩;rw[o.out,decN_snoc]
     go_num
   ·obtain rfl:k=t.size:=by omega
    have x:¬((t.size:Int)<(t.size:Int)):=by omega
    have b:=hid (show decV t=decN t.data.toList from dec_yes ⟨by omega,by omega,fun _=>l.out,fun j h=>d.out j h h⟩);have m:=hid (show decN (t.data.toList.take t.size)=decN t.data.toList by rw[size_list,dg]);go_wp2_with fail
    go_ret
    exact⟨by rw[b.out, ←m.out];rfl,aj _ _⟩
set_option maxHeartbeats 200000
def linesZ (zs:List ByteArray):List ByteArray:=if zs.getLast?=some ⟨#[]⟩ then zs.dropLast else zs
theorem linesB_eq (s:ByteArray):linesB s=linesZ (cutB 10 s):=rfl
theorem last_at {zs:List ByteArray} {L:Nat} (a:zs.length=L+1):∃zl,zs.getLast?=some zl∧∀h:L<zs.length,zs[L]=zl:=by
 have h:L<zs.length:=by omega
 refine⟨zs[L],?_,fun _=>rfl⟩;have e:zs.length - 1=L:=by omega
 rw[List.getLast?_eq_getElem?,e,ac h]
theorem linesZ_yes {zs:List ByteArray} {a:ByteArray} (hl:zs.getLast?=some a) (h:a.size=0):linesZ zs=zs.dropLast:=by
 have e:a=⟨#[]⟩:=by
  apply bytes_ext;rw[size_list] at h;rw[List.length_eq_zero_iff.1 h]
 unfold linesZ;rw[hl,e,ag rfl]
theorem linesZ_no {zs:List ByteArray} {a:ByteArray} (hl:zs.getLast?=some a) (h:a.size≠0):linesZ zs=zs:=by
 unfold linesZ;rw[hl,ae];intro e;have:=aK e;rw[this] at h;exact h rfl
theorem StrsAt.drop {w:World} {b:Nat} {zs:List ByteArray} (h:StrsAt w b 0 zs):StrsAt w b 0 zs.dropLast:=fun j a=>by
 have c:j<zs.length:=by simp at a;omega
 rw[h j c];simp
set_option maxHeartbeats 1000000
theorem refLines_any (s:ByteArray) (w:World) (q:s.size≤100000):
  Calls Tryz.prog 69 #[.string s] w fun e w'=>∃b cap,e=.returned (.slice (some ⟨b,0,none⟩) (linesB s).length cap)∧StrsAt w' b 0 (linesB s)∧Below w.heap.size w w':=by
 rw[linesB_eq];have j:=hid (cut_cap s 10 w q);have m:=hid (show ∃L,(cutB 10 s).length=L+1 by
  have:(cutB 10 s)≠[]:=by unfold cutB;simp[cutL_ne]
  exact⟨(cutB 10 s).length - 1,by have:=List.length_pos_iff.2 this;omega⟩)
 have l:=hid (show (cutB 10 s).length≤100001 by
  have:=cutL_len 10 s.data.toList;rw[←size_list] at this;simp only[cutB,bN];omega)
 clear q;generalize cutB 10 s=zs at*;obtain⟨L,d⟩:=m.out;have A:L≤100000:=by have:=l.out;omega
 go_enter Tryz.func69,Tryz.ntmps69
 go_wp2_with fail
 refine j.mono ?_;rintro e w1 ⟨u,h,rfl,g,p,y⟩;have o:=hid g;have i:=hid p;have B:(L:Int)+1≤(h:Int):=by omega
 obtain⟨z,t,r⟩:=last_at d;have f:L<zs.length:=by omega
 have v:=g L f;rw[aC,r f] at v;have k:=hid d;have n:=hid t;rw[d];clear g p j y m l d t r f;by_cases a:z.size=0
 ·have c:=hid (linesZ_yes n a);have x:=is_empty a;clear a;go_wp2_with fail
  go_ret
  refine⟨u,h,?_,?_,i.out⟩
  ·rw[c.out,List.length_dropLast,k.out];rfl
  ·rw[c.out];exact StrsAt.drop o
 ·have c:=hid (linesZ_no n a);have x:=not_empty' a;clear a;go_wp2_with fail
  go_ret
  refine⟨u,h,?_,?_,i.out⟩
  ·rw[c.out,k.out];rfl
  ·rw[c.out];exact o
end Go.Proofs.YtaejnmmpddbbjaaGreatDoor.Prs
namespace Go.Proofs.YtaejnmmpddbbjaaGreatDoor.Wd
open Go.RowKit Mem Bw Nums Mmu Hex
set_option maxHeartbeats 200000
def numOk (t:ByteArray):Bool:=decide (t=(⟨#[45]⟩:ByteArray))||decide (0≤Prs.decV t)
theorem wpList_apN {P:Program} {w w':World} {ops:Array Oper} {rest:List Oper} {o:Oper} {a:Act} {Q:Exit→Act→World→Prop} (d:o.guard=none) (s x:Operand) (t:TypeId)
  (e:o.op=.call {callee:=.builtin .append,args:=#[s,x],argTypes:=#[t,t]}) (v u b:Value) (g:a.eval s=v) (i:a.eval x=u) (f:(Builtin.append_ #[t,t] o.type #[v,u]).run P w=.ok b w')
  (h:wpList P ops Q rest (a.put o.dst b) w'):wpList P ops Q (o::rest) a w:=by
 refine wpList_plain d fun K c=>?_;unfold Oper.wp;simp[execOp,e,resolve,invoke,builtin,g,i,f,Result.andThen];exact c _ _ h
theorem own_formN {B e size n:Nat} {w:World} {v:Value} {xs:List Value} (h:w.ownsRow B e size v n xs):∃q c,v=.slice q n c:=by
 rcases h.2 with ⟨rfl,rfl⟩|⟨g,cap,a,rfl,_⟩
 ·exact⟨_,_,rfl⟩
 ·exact⟨_,_,rfl⟩
theorem app_n {w wr:World} {zs:List Int} {n:Nat} {y:Int} {h:Option Addr} {cu:Nat} (hB:Below w.heap.size w wr) (hl:n≤1000) (m:zs.length=n) (f:wr.ownsRow w.heap.size 3 1 (.slice h n cu) n (ints zs)):
  ∃q c w',(Builtin.append_ #[22,22] 22 #[.slice h n cu,.slice (some ⟨wr.heap.size,0,none⟩) 1 1]).run Tryz.prog (wr.alloc (.cells #[.int .i64 y] 3))=.ok (.slice q (n+1) c) w'∧w'.ownsRow w.heap.size 3 1 (.slice q (n+1) c) (n+1) (ints (zs++[y]))∧Below w.heap.size w w':=by
 subst m;have b:=bal (aj wr.heap.size wr) (.cells #[.int .i64 y] 3);have g:=aD hB.size b.size;obtain⟨i,hi,s,p,r⟩:=info_get infoI;obtain⟨t,w',o,d,l,_⟩:=run_append_own (P:=Tryz.prog) (wr.alloc (.cells #[.int .i64 y] 3)) w.heap.size 22 22 3 i (.int .i64 0) 1 8 Tryz.underlying22 hi s p r rfl (by decide) _ _ _ (eE f b) ⟨wr.heap.size,0,none⟩ 1 1 [.int .i64 y] rfl (fun j v a=>by
  match j,a with
  |0,a=>cases a;exact cJ wr #[.int .i64 y] 3 0
  |j+1,a=>simp at a) (int1 y) (by unfold maxLen;omega) (by omega) g
 obtain⟨q,c,rfl⟩:=own_formN d;have e:ints zs++[Value.int .i64 y]=ints (zs++[y]):=by unfold ints;simp
 exact⟨q,c,w',o,by rw[←e];exact d,(btr hB b).grown l g (fun k hk=>(f.lt k hk).1)⟩
theorem StrsAt.below' {w w':World} {b off:Nat} {zs:List ByteArray} (h:StrsAt w b off zs) (c:Below w.heap.size w w'):StrsAt w' b off zs:=
 fun j a=>(c.cell (al _ _ (h j a))).trans (h j a)
theorem own_pos {w:World} {B n:Nat} {v:Value} {zs:List Int} (h:w.ownsRow B 3 1 v n (ints zs)) (f:zs.length=n) (a:0<n):∃g cap,v=.slice (some ⟨g,0,none⟩) n cap∧n≤cap∧B≤g∧IntsAt w g 0 zs:=by
 subst f;obtain⟨q,b,off,cap,e,i,hi⟩:=dm h;rcases h.2 with ⟨_,l⟩|⟨g,j,k,rfl,c,_,d,_⟩
 ·omega
 ·cases e
  have:=i a
  cases this
  exact⟨b,cap,rfl,d,c,hi⟩
set_option maxRecDepth 100000
set_option maxHeartbeats 4000000
theorem nums_any (b off cap:Nat) (l:List ByteArray) (w:World) (D:StrsAt w b off l) (E:∀t∈l,numOk t=true) (hl:l.length≤100):
  Calls Tryz.prog 122 #[.slice (some ⟨b,off,none⟩) l.length cap] w fun r w'=>∃u,r=.returned (.tuple #[u,.int .i64 0])∧w'.ownsRow w.heap.size 3 1 u l.length (ints (l.map Prs.decV))∧Below w.heap.size w w':=by
 have L:=hid D;have J:=hid E;have Q:(l.length:Int)≤100:=by omega
 clear D E;go_enter Tryz.func122,Tryz.ntmps122
 go_wp2_with fail
 go_loopw [4,5] (fun u i wr=>∃(k:Nat) (c:Option Addr) (cu:Nat),k≤l.length∧i=.int .i64 k∧u=.slice c k cu∧Hid (wr.ownsRow w.heap.size 3 1 (.slice c k cu) k (ints ((l.take k).map Prs.decV)))∧Hid (Below w.heap.size w wr)) (fun _ i _=>l.length - (intOf i).toNat)
 case atStart=>exact⟨0,none,0,by omega,rfl,rfl,hid (cT _ _ _ _),hid (aj _ _)⟩
 case round=>
  obtain⟨k,c,cu,hk,rfl,rfl,a,d⟩:=hrel;by_cases p:k<l.length
  rotate_left
  ·obtain rfl:l.length=k:=by omega
   have P:¬((l.length:Int)<(l.length:Int)):=by omega
   have m:=a.out;rw[dg] at m;have n:=hid m;clear m a;go_wp2_with fail
   go_ret2
   exact⟨_,rfl,n.out,d.out⟩
  have R:(k:Int)<(l.length:Int):=by omega
  have o:=(StrsAt.below' L d) k p;have j:=hid (show (l.take (k+1)).map Prs.decV=(l.take k).map Prs.decV++[Prs.decV l[k]] by rw[bD p,dX];rfl);have K:=hid (J.out l[k] (aw p));have v:=hid (show ((l.take k).map Prs.decV).length=k by rw[bN,bL];omega);have s:=hid (Prs.digits_any l[k] wr);generalize l[k]=t at*;generalize (l.take k).map Prs.decV=zs at a j v ⊢;go_wp2_with fail
  refine s.mono ?_;rintro r H ⟨rfl,f⟩;have I:=hid (btr d f);have n:=hid (eE a f);have M:=(f.cell (al _ _ o)).trans o;clear s a d f o;obtain⟨g,e,w',F,B,C⟩:=app_n (y:=Prs.decV t) I (by omega) v n;have A:=hid F;have x:=hid B;have q:=hid C;clear F B C;by_cases G:t=⟨#[45]⟩
  ·subst G;go_wp2_with (first|(at_builtin;refine wpList_apN rfl _ _ 22 rfl (.slice c k cu) (.slice (some ⟨H.heap.size,0,none⟩) 1 1) (.slice g (k+1) e) rfl rfl A ?_))
   exact⟨⟨k+1,g,e,by omega,by go_num,rfl,hid (by rw[j.out];exact x),q⟩,by simp[intOf];omega⟩
  ·have N:0≤Prs.decV t:=by
    have:=K.out;unfold numOk at this;rw[cd] at this;rcases this with h|h
    ·exact absurd (az h) G
    ·exact az h
   have O:decide (Prs.decV t<0)=false:=ay (by omega);generalize Prs.decV t=z at*;go_wp2_with (first|(at_builtin;refine wpList_apN rfl _ _ 22 rfl (.slice c k cu) (.slice (some ⟨H.heap.size,0,none⟩) 1 1) (.slice g (k+1) e) rfl rfl A ?_))
   all_goals exact⟨⟨k+1,g,e,by omega,by go_num,rfl,hid (by rw[j.out];exact x),q⟩,by simp[intOf];omega⟩
end Go.Proofs.YtaejnmmpddbbjaaGreatDoor.Wd
