/- Qag -/
import Derived.Deep.RegionHeld3
import Derived.BigQuiet
import Derived.Test.YtaejnmmpddbbjaaGreatDoorQae
import Derived.Test.YtaejnmmpddbbjaaGreatDoorQaf
set_option maxRecDepth 100000
set_option maxHeartbeats 16000000
namespace Go.Proofs.YtaejnmmpddbbjaaGreatDoor
namespace Wd
open Go.RowKit Mem Bw Nums Mmu
def zkB (s:Nat->Int):Bool:=decide (s 0=0∧s 1=0∧s 2=0∧s 3=0∧s 4=0∧s 5=0)
theorem Cw (s:Nat->Int) (w:World):(Op.equalIn 10000 78 (.agg #[.int .i64 (s 0),.int .i64 (s 1),.int .i64 (s 2),.int .i64 (s 3),.int .i64 (s 4),.int .i64 (s 5)]) (.agg zK)).run Tryz.prog w=.ok (zkB s) w:=by
 have f:Tryz.prog.underlying 78=some (.struct (Tryz.prog.fieldsOf 78)):=oK;have g:Tryz.prog.stoodInHeld 78=false:=oK;rw[show (10000:Nat)=9999+1 from rfl,run_equalIn_struct w 9999 _ _ _ f g];simp only[Program.fieldsOf,Tryz.underlying78];have hi:∀a b:Int,(Op.equalIn 9999 3 (.int .i64 a) (.int .i64 b)).run Tryz.prog w=.ok (a==b) w:=fun a b=>sg 9998 a b w;have d:∀o,o<6->(part 3 #[.int .i64 (s 0),.int .i64 (s 1),.int .i64 (s 2),.int .i64 (s 3),.int .i64 (s 4),.int .i64 (s 5)] o).run Tryz.prog w=.ok (.int .i64 (s o)) w:=fun o c=>xM 6 s o c w;have e:∀o,o<6->(part 3 zK o).run Tryz.prog w=.ok (.int .i64 0) w:=fun o c=>xM 6 (fun _=>0) o c w;unfold zkB;simp[Op.eqFields,Sem.run_bind,d,e,hi]
 (repeat' split)<;>simp_all
theorem yD {ops:Array Oper} {rest:List Oper} {op:Oper} {a:Act} {w:World} {Q:Exit->Act->World->Prop} (f:op.guard=none) (x y:Operand) (m:TypeId) (j:op.op=.binOp .eql 78 x y m) (s:Nat->Int) {b:Bool} (d:zkB s=b)
  (k:a.eval x=.agg #[.int .i64 (s 0),.int .i64 (s 1),.int .i64 (s 2),.int .i64 (s 3),.int .i64 (s 4),.int .i64 (s 5)]) (l:a.eval y=.agg zK) (h:wpList Tryz.prog ops Q rest (a.put op.dst (.bool b)) w):wpList Tryz.prog ops Q (op::rest) a w:=
 wpList_plain f fun _ c=>by
  have g:Tryz.prog.eqGuardType Tryz.prog.depth 78=false:=oK;have i:(binOp .eql 78 (.agg #[.int .i64 (s 0),.int .i64 (s 1),.int .i64 (s 2),.int .i64 (s 3),.int .i64 (s 4),.int .i64 (s 5)]) (.agg zK)).run Tryz.prog w=.ok (.bool b) w:=by rw[run_eql_struct,Cw s,d];rfl
  unfold Oper.wp;have e:(execOp a.eval op).run Tryz.prog w=.ok (.value (.bool b)) w:=by
   unfold execOp;simp only[j,k,l,en,run_eqGuard_agg (P:=Tryz.prog) w .eql 78 x y #[.int .i64 (s 0),.int .i64 (s 1),.int .i64 (s 2),.int .i64 (s 3),.int .i64 (s 4),.int .i64 (s 5)] zK g,i,Result.andThen_ok,Sem.run_pure]
  rw[e];exact c _ _ h
def bsB (p:PW) (kd:Int) (s:Nat->Int):Bool:=if zkB s then s 6 != -1 else !(kd==5&&opB p s&&mdB p s&& !vT p (s 6))
theorem rL (vb:Nat) (V:Nat->Value) (p:PW) (n m:Nat) (s:Nat->Int) (w:World) (k:ei w vb V p) (L:(n:Int)/16=(m:Int)) (hk:m<p.kinds.length):
  Calls Tryz.prog 104 #[.pointer (some ⟨vb,0,none⟩),.int .i64 n,.agg (cf 7 s).toArray] w fun r w'=>r=.returned (.bool (bsB p p.kinds[m] s))∧Below w.heap.size w w':=by
 rw[pN];have d:=hid (bal (ag w.heap.size w) (.cells #[.int .i64 (s 0),.int .i64 (s 1),.int .i64 (s 2),.int .i64 (s 3),.int .i64 (s 4),.int .i64 (s 5),.int .i64 (s 6)] 80));have c:=bM w #[.int .i64 (s 0),.int .i64 (s 1),.int .i64 (s 2),.int .i64 (s 3),.int .i64 (s 4),.int .i64 (s 5),.int .i64 (s 6)] 80;have D:=hid (show (w.alloc (.cells #[.int .i64 (s 0),.int .i64 (s 1),.int .i64 (s 2),.int .i64 (s 3),.int .i64 (s 4),.int .i64 (s 5),.int .i64 (s 6)] 80)).heap.size=w.heap.size+1 by simp);have c1:=r11 1 (k.below d).r;obtain⟨q,b,off,cap,e1,G,H⟩:=k.v.kinds;have hl:(p.kinds.length:Int)<=1000:=by have:=k.f.kinds;omega
 have K:(m:Int)<(p.kinds.length:Int):=oA;have C:=hid (show 0<p.kinds.length by omega);obtain rfl:=G oA;have E:=(H.below d) m hk;have o:=hid (k.below d);have x:=hid (fun W (h:Below (w.alloc (.cells #[.int .i64 (s 0),.int .i64 (s 1),.int .i64 (s 2),.int .i64 (s 3),.int .i64 (s 4),.int .i64 (s 5),.int .i64 (s 6)] 80)).heap.size (w.alloc (.cells #[.int .i64 (s 0),.int .i64 (s 1),.int .i64 (s 2),.int .i64 (s 3),.int .i64 (s 4),.int .i64 (s 5),.int .i64 (s 6)] 80)) W)=>xI vb V p s W (o.below h) C);have u:=hid (fun W (h:Below (w.alloc (.cells #[.int .i64 (s 0),.int .i64 (s 1),.int .i64 (s 2),.int .i64 (s 3),.int .i64 (s 4),.int .i64 (s 5),.int .i64 (s 6)] 80)).heap.size (w.alloc (.cells #[.int .i64 (s 0),.int .i64 (s 1),.int .i64 (s 2),.int .i64 (s 3),.int .i64 (s 4),.int .i64 (s 5),.int .i64 (s 6)] 80)) W)=>uT vb V p s W (o.below h));have B:=hid (fun W (h:Below (w.alloc (.cells #[.int .i64 (s 0),.int .i64 (s 1),.int .i64 (s 2),.int .i64 (s 3),.int .i64 (s 4),.int .i64 (s 5),.int .i64 (s 6)] 80)).heap.size (w.alloc (.cells #[.int .i64 (s 0),.int .i64 (s 1),.int .i64 (s 2),.int .i64 (s 3),.int .i64 (s 4),.int .i64 (s 5),.int .i64 (s 6)] 80)) W)=>ph vb V p (s 6) W (o.below h));rw[pN] at u;unfold kv at x;generalize p.kinds[m]=kd at E ⊢;have O:=c 0;have P:=c 1;have Q:=c 2;have R:=c 3;have S:=c 4;have T:=c 5;have U:=c 6
 cases hzk:zkB s with
 |true=>
  have j:=hid hzk;have a:=hid (show bsB p kd s=(s 6 != -1) by unfold bsB;rw[hzk];rfl);go_enter Tryz.func104,Tryz.ntmps104
  go_wp2_with (first|((with_reducible (show wpList _ _ _ (⟨_,Op.binOp BinOp.eql 78 _ _ _,_,_,_,_⟩::_) _ _));refine yD rfl _ _ _ rfl s j rfl rfl ?_))
  go_ret
  exact⟨by rw[a.out];rfl,d.out⟩
 |false=>
  have j:=hid hzk;have i:=hid (show bsB p kd s= !(kd==5&&opB p s&&mdB p s&& !vT p (s 6)) by unfold bsB;rw[hzk];rfl);by_cases t:kd=5
  ·subst t;go_enter Tryz.func104,Tryz.ntmps104
   go_wp2_with (first|((with_reducible (show wpList _ _ _ (⟨_,Op.binOp BinOp.eql 78 _ _ _,_,_,_,_⟩::_) _ _));refine yD rfl _ _ _ rfl s j rfl rfl ?_))
   generalize World.alloc _ _=y at*;refine (x.out y (ag _ _)).mono ?_;rintro r w1 ⟨rfl,z⟩;have l:=hid z;have A:w.heap.size<y.heap.size:=by rw[D.out];omega
   have e:=cZ c A z;have X:=e 0;have Y:=e 1;have Z:=e 2;have z3:=e 3;have z4:=e 4;have z5:=e 5;have z6:=e 6
   cases ho:opB p s with
   |false=>
    have a:=hid (show bsB p 5 s=true by rw[i.out,ho];simp);go_wp2_with fail
    go_ret
    exact⟨by rw[a.out];rfl,btr d l⟩
   |true=>
    go_wp2_with fail
    refine (u.out w1 l).mono ?_;rintro r w2 ⟨rfl,F⟩;have g:=hid (btr l F);have M:=cZ c A g 6
    cases hd:mdB p s with
    |false=>
     have a:=hid (show bsB p 5 s=true by rw[i.out,hd];simp);go_wp2_with fail
     go_ret
     exact⟨by rw[a.out];rfl,btr d g⟩
    |true=>
     have a:=hid (show bsB p 5 s=vT p (s 6) by rw[i.out,ho,hd];simp);go_wp2_with fail
     refine (B.out w2 g).mono ?_;rintro r N ⟨rfl,rfl⟩;generalize vT p (s 6)=I at a ⊢;go_wp2_with fail
     go_ret
     exact⟨by rw[a.out];rfl,btr d g⟩
  ·have J:(kd !=5)=true:=by simpa using t
   have a:=hid (show bsB p kd s=true by rw[i.out,show (kd==5)=false by simpa using t];rfl);go_enter Tryz.func104,Tryz.ntmps104
   go_wp2_with (first|((with_reducible (show wpList _ _ _ (⟨_,Op.binOp BinOp.eql 78 _ _ _,_,_,_,_⟩::_) _ _));refine yD rfl _ _ _ rfl s j rfl rfl ?_))
   go_ret
   exact⟨by rw[a.out];rfl,d.out⟩
def srB (p:PW) (n:Int) (f:Nat->Int):Bool:=if pl (f 9)=0 then f 14== -1&&((cna n p.lines:Nat):Int)==0 else isB p (f 14) (pl (f 9))&&((cna n p.lines:Nat):Int)==1&&((cn n (p.lines.getD (f 14).toNat []):Nat):Int)==1
theorem na (vb:Nat) (V:Nat->Value) (p:PW) (n:Int) (f:Nat->Int) (w:World) (e:ei w vb V p) (H:p.lines.length=p.kinds.length):
  Calls Tryz.prog 158 #[.pointer (some ⟨vb,0,none⟩),.int .i64 n,.agg (cf 20 f).toArray] w fun r w'=>r=.returned (.bool (srB p n f))∧Below w.heap.size w w':=by
 have g:=hid (bal (ag w.heap.size w) (.cells (cf 20 f).toArray 45));have A:=hid (DL w f 45);have T:=r11 4 (e.below g).r;have x9:=eH A 9 oA;have I:=eH A 14 oA;have i:=hid (lF (V 4) p.lines n (w.alloc (.cells (cf 20 f).toArray 45)) (e.v.lines.below g) e.f.lines e.f.line);have D:=hid (fun (x k:Int) (m:Nat)=>jd vb V p x k ((w.alloc (.cells (cf 20 f).toArray 45)).drewN m) (e.below (aE g m)));have L:=hid e.v.lines;have J:=hid e.f.line;have z:(cna n p.lines:Int)<=1000000:=by have:=oQ n p.lines p.lines.length e.f.line;rw[cT] at this;have:=e.f.lines;omega
 have Z:(p.lines.length:Int)<=1000:=by have:=e.f.lines;omega
 have c:=hid (show srB p n f=if pl (f 9)=0 then f 14== -1&&((cna n p.lines:Nat):Int)==0 else isB p (f 14) (pl (f 9))&&((cna n p.lines:Nat):Int)==1&&((cn n (p.lines.getD (f 14).toNat []):Nat):Int)==1 from rfl);have o:=hid (fun W=>su (f 9) W);generalize pl (f 9)=kd at c o;have K:=hid H;clear e A H;by_cases hk:kd=0
 ·rw[ah hk] at c;subst hk;by_cases u:f 14= -1
  ·have d:=hid (show srB p n f=(((cna n p.lines:Nat):Int)==0) by rw[c.out,u];rfl);rw[u] at I;generalize cna n p.lines=a at i z d;clear c;go_enter Tryz.func158,Tryz.ntmps158
   go_wp2_with fail
   refine i.mono ?_;rintro r w1 ⟨rfl,rfl⟩;go_wp2_with fail
   refine (o.out _).mono ?_;rintro r w1 ⟨rfl,rfl⟩;go_wp2_with fail
   go_ret
   exact⟨by rw[d.out];rfl,g.out⟩
  ·have d:=hid (show srB p n f=false by rw[c.out,show (f 14== -1)=false by simpa using u];rfl);have U:(f 14== -1)=false:=by simpa using u
   generalize cna n p.lines=a at i z;clear c;go_enter Tryz.func158,Tryz.ntmps158
   go_wp2_with fail
   refine i.mono ?_;rintro r w1 ⟨rfl,rfl⟩;go_wp2_with fail
   refine (o.out _).mono ?_;rintro r w1 ⟨rfl,rfl⟩;go_wp2_with fail
   go_ret
   exact⟨by rw[d.out];rfl,g.out⟩
 rw[ae hk] at c;have Y:(kd !=0)=true:=by simpa using hk
 cases hi:isB p (f 14) kd with
 |false=>
  have d:=hid (show srB p n f=false by rw[c.out,hi];rfl);have t:=hid (show ∀m,Calls Tryz.prog 160 #[.pointer (some ⟨vb,0,none⟩),.int .i64 (f 14),.int .i64 kd] ((w.alloc (.cells (cf 20 f).toArray 45)).drewN m) fun r w'=>r=.returned (.bool false)∧w'=((w.alloc (.cells (cf 20 f).toArray 45)).drewN m) from fun m=>(D.out (f 14) kd m).mono fun r w' h=>⟨by rw[h.1,hi],h.2.symm⟩);have s:=hid trivial;generalize cna n p.lines=a at i z;clear c hi s;go_enter Tryz.func158,Tryz.ntmps158
  go_wp2_with fail
  refine i.mono ?_;rintro r w1 ⟨rfl,rfl⟩;go_wp2_with fail
  refine (o.out _).mono ?_;rintro r w1 ⟨rfl,rfl⟩;go_wp2_with fail
  go_quiet (first|(go_at_call 160;refine bD (t.out _)))
  have l:=hid (aE g nq);generalize World.drewN _ _=E at l ⊢;go_wp2_with fail
  go_ret
  exact⟨by rw[d.out];rfl,l.out⟩
 |true=>
  obtain⟨j,B,N⟩:=jU hi;have t:=hid (show ∀m,Calls Tryz.prog 160 #[.pointer (some ⟨vb,0,none⟩),.int .i64 (j:Int),.int .i64 kd] ((w.alloc (.cells (cf 20 f).toArray 45)).drewN m) fun r w'=>r=.returned (.bool true)∧w'=((w.alloc (.cells (cf 20 f).toArray 45)).drewN m) from fun m=>(D.out j kd m).mono fun r w' h=>⟨by rw[h.1, <-B,hi],h.2.symm⟩);rw[hi,B,af] at c;rw[B] at I;have C:j<p.lines.length:=by rw[K.out];exact N
  have X:(j:Int)<(p.lines.length:Int):=oA;by_cases G:cna n p.lines=1
  ·obtain⟨q,b,off,cap,e4,O,Q⟩:=L.out;obtain rfl:=O oA;obtain⟨y,F,P⟩:=Q j C;have S:=(g.cell (aj _ _ F)).trans F;have s:=hid (show ∀m,Calls Tryz.prog 178 #[y,.int .i64 n] ((w.alloc (.cells (cf 20 f).toArray 45)).drewN m) fun r w'=>r=.returned (.int .i64 (cn n p.lines[j]))∧w'=((w.alloc (.cells (cf 20 f).toArray 45)).drewN m) from fun m=>(mB y p.lines[j] n _ (P.below (aE g m)) (J.out _ (av C))).mono fun _ _ h=>⟨h.1,h.2.symm⟩);have d:=hid (show srB p n f=(((cn n p.lines[j]:Nat):Int)==1) by rw[c.out,G,aa,ac C];rfl);rw[G,e4] at i;generalize cn n p.lines[j]=R at s d;go_enter Tryz.func158,Tryz.ntmps158
   go_wp2_with fail
   refine i.mono ?_;rintro r w1 ⟨rfl,rfl⟩;go_wp2_with fail
   refine (o.out _).mono ?_;rintro r w1 ⟨rfl,rfl⟩;go_wp2_with fail
   go_quiet (first|(go_at_call 160;refine bD (t.out _))|(go_at_call 178;refine bD (s.out _)))
   have l:=hid (aE g nq);generalize World.drewN _ _=E at l ⊢;go_wp2_with fail
   go_ret
   exact⟨by rw[d.out];rfl,l.out⟩
  ·have d:=hid (show srB p n f=false by
    have:((((cna n p.lines:Nat):Int))==1)=false:=by simp;omega
    rw[c.out,this];rfl)
   have M:(((cna n p.lines:Nat):Int)==1)=false:=by simp;omega
   generalize cna n p.lines=a at i z M;go_enter Tryz.func158,Tryz.ntmps158
   go_wp2_with fail
   refine i.mono ?_;rintro r w1 ⟨rfl,rfl⟩;go_wp2_with fail
   refine (o.out _).mono ?_;rintro r w1 ⟨rfl,rfl⟩;go_wp2_with fail
   go_quiet (first|(go_at_call 160;refine bD (t.out _)))
   have l:=hid (aE g nq);generalize World.drewN _ _=E at l ⊢;go_wp2_with fail
   go_ret
   exact⟨by rw[d.out];rfl,l.out⟩
theorem zg {ρ:Operand->Value} {o:Oper} (x y:Operand) (i:TypeId) (c:o.op=.binOp .neq 45 x y i) (f g:Nat->Int) (h:¬∀k,k<20->f k=g k) (d:ρ x=.agg (cf 20 f).toArray) (e:ρ y=.agg (cf 20 g).toArray) (W:World):(execOp ρ o).run Tryz.prog W=.ok (.value (.bool true)) W:=by
 have a:Tryz.prog.eqGuardType Tryz.prog.depth 45=false:=oK;have b:(binOp .neq 45 (.agg (cf 20 f).toArray) (.agg (cf 20 g).toArray)).run Tryz.prog W=.ok (.bool true) W:=by rw[run_neq_struct,Dq f g h];rfl
 unfold execOp;simp only[c,d,e,en,run_eqGuard_agg (P:=Tryz.prog) W .neq 45 x y (cf 20 f).toArray (cf 20 g).toArray a,b,Result.andThen_ok,Sem.run_pure]
theorem El {n:Nat} {f g:Nat->Int} (h:∀k,k<n->f k=g k):cf n f=cf n g:=by
 unfold cf;exact eA fun k hk=>by rw[h k (List.mem_range.1 hk)]
theorem vX {ρ:Operand->Value} {o:Oper} (x y:Operand) (a:TypeId) (b:o.op=.binOp .neq 45 x y a) (f g:Nat->Int) (h:∀k,k<20->f k=g k) (c:ρ x=.agg (cf 20 f).toArray) (d:ρ y=.agg (cf 20 g).toArray) (W:World):(execOp ρ o).run Tryz.prog W=.ok (.value (.bool false)) W:=
 vY x y a b g (by rw[c,El h]) d W
theorem ns {ops:Array Oper} {rest:List Oper} {op:Oper} {a:Act} {w:World} {Q:Exit->Act->World->Prop} (g:Region.wanted op (yielded ops a.tmps)=true) (x:Operand) (e:op.op=.load 45 x)
  (b:Nat) (i:a.eval x=.pointer (some ⟨b,0,none⟩)) (f:Nat->Int) (d:w.rangeAt b 0 (cf 20 f))
  (h:wpList Tryz.prog ops Q rest (a.put op.dst (.agg (cf 20 f).toArray)) w):wpList Tryz.prog ops Q (op::rest) a w:=
 BigFrame.wpList_want g fun _ c=>wp_load_mid 45 x e b 0 i (cf 20 f) _ d Tryz.underlying45 rfl (by rw[az];exact iC) (c _ _ h)
def yT (f:Nat->Int):Bool:=(List.range 20).all fun k=>f k==bl k
theorem kx {f:Nat->Int}:yT f=true↔∀k,k<20->f k=bl k:=by
 unfold yT;rw[bf];constructor
 ·intro h k hk;simpa using h k (List.mem_range.2 hk)
 ·intro h k hk;simpa using h k (List.mem_range.1 hk)
def btB (p:PW) (n kind:Int) (f:Nat->Int):Bool:=if kind=6 then !(nfB p f&&ffB p f&&dbB p n f&&srB p n f&&rrB p n f) else !yT f
theorem xK {p:PW} {f:Nat->Int} (c:p.IA.length=p.kinds.length) (h:ffB p f=true):f 17= -1∨∃j:Nat,j<p.IA.length∧f 17=j:=by
 unfold ffB at h;rw[am] at h;have a:=h.2;unfold fG at a;rw[cJ] at a;rcases a with a|a
 ·exact .inl (by simpa using a)
 ·obtain⟨j,e,b⟩:=jU a;exact .inr ⟨j,oA,e⟩
theorem rM (vb:Nat) (V:Nat->Value) (p:PW) (n:Nat) (f:Nat->Int) (w:World) (A:ei w vb V p) (hn:n<p.kinds.length) (ht:p.IA.length=p.kinds.length) (ad:p.lines.length=p.kinds.length):
  Calls Tryz.prog 107 #[.pointer (some ⟨vb,0,none⟩),.int .i64 n,.agg (cf 20 f).toArray] w fun r w'=>r=.returned (.bool (btB p n p.kinds[n] f))∧Below w.heap.size w w':=by
 have a:=hid (bal (ag w.heap.size w) (.cells (cf 20 f).toArray 45));have d:=hid (DL w f 45);have G:=hid (show (Tryz.prog.info? 45).map (·.size)=some (cf 20 f).length by rw[az];exact iC);have d1:=r11 1 (A.below a).r;obtain⟨q,b,off,cap,e1,hq,hz⟩:=A.v.kinds;have hl:(p.kinds.length:Int)<=1000:=by have:=A.f.kinds;omega
 have aj:(n:Int)<(p.kinds.length:Int):=oA;obtain rfl:=hq oA;have X:=(hz.below a) n hn;have m:=hid A;have P:=hid ht;have N:=hid ad;generalize p.kinds[n]=kd at X ⊢;by_cases z:kd=6
 ·subst z;have E:=hid (ag (w.alloc (.cells (cf 20 f).toArray 45)).heap.size (w.alloc (.cells (cf 20 f).toArray 45)));go_enter Tryz.func107,Tryz.ntmps107
  go_wp2_with (first|((with_reducible refine gld 45 ?_);refine ns oR _ rfl _ rfl f d ?_))
  generalize World.alloc _ _=y at*;refine (nI vb V p f _ (m.below (btr a E))).mono ?_;rintro r w1 ⟨rfl,Y⟩;have s:=hid (btr E Y)
  cases h1:nfB p f with
  |false=>
   have c:=hid (show btB p n 6 f=true by unfold btB;rw[ah rfl,h1];simp);go_wp2_with fail
   go_ret
   exact⟨by rw[c.out];rfl,btr a s⟩
  |true=>
   have H:=hid h1;have Q:=hid (bj d (s.out));go_wp2_with (first|((with_reducible refine gld 45 ?_);refine ns oR _ rfl _ rfl f Q ?_))
   refine (oZ vb V p f _ (m.below (btr a s))).mono ?_;rintro r w2 ⟨rfl,Z⟩;have t:=hid (btr s Z)
   cases h2:ffB p f with
   |false=>
    have c:=hid (show btB p n 6 f=true by unfold btB;rw[ah rfl,h2];simp);go_wp2_with fail
    go_ret
    exact⟨by rw[c.out];rfl,btr a t⟩
   |true=>
    have F:=hid h2;have R:=hid (bj d (t.out));go_wp2_with (first|((with_reducible refine gld 45 ?_);refine ns oR _ rfl _ rfl f R ?_))
    refine (p9 vb V p n f _ (m.below (btr a t)) (xK P F)).mono ?_;rintro r w3 ⟨rfl,aa⟩;have u:=hid (btr t aa)
    cases h3:dbB p n f with
    |false=>
     have c:=hid (show btB p n 6 f=true by unfold btB;rw[ah rfl,h3];simp);go_wp2_with fail
     go_ret
     exact⟨by rw[c.out];rfl,btr a u⟩
    |true=>
     have I:=hid h3;have T:=hid (bj d (u.out));go_wp2_with (first|((with_reducible refine gld 45 ?_);refine ns oR _ rfl _ rfl f T ?_))
     refine (na vb V p n f _ (m.below (btr a u)) N).mono ?_;rintro r w4 ⟨rfl,ab⟩;have x:=hid (btr u ab)
     cases h4:srB p n f with
     |false=>
      have c:=hid (show btB p n 6 f=true by unfold btB;rw[ah rfl,h4];simp);go_wp2_with fail
      go_ret
      exact⟨by rw[c.out];rfl,btr a x⟩
     |true=>
      have J:=hid h4;have U:=hid (bj d (x.out));go_wp2_with (first|((with_reducible refine gld 45 ?_);refine ns oR _ rfl _ rfl f U ?_))
      refine (pK vb V p n f _ (m.below (btr a x))).mono ?_;rintro r w5 ⟨rfl,ac⟩;have B:=hid (btr x ac)
      cases h5:rrB p n f with
      |false=>
       have c:=hid (show btB p n 6 f=true by unfold btB;rw[ah rfl,h5];simp);go_wp2_with fail
       go_ret
       exact⟨by rw[c.out];rfl,btr a B⟩
      |true=>
       have L:=hid h5;have af:=hid (bj d (B.out));go_wp2_with fail
       go_ret
       exact⟨by unfold btB;rw[ah rfl,H.out,F.out,I.out,J.out,L.out];rfl,btr a B⟩
 ·have ai:(kd !=6)=true:=by simpa using z
  cases g:yT f with
  |true=>
   have M:=hid (kx.1 g);have c:=hid (show btB p n kd f=false by unfold btB;rw[ae z,g];rfl);go_enter Tryz.func107,Tryz.ntmps107
   go_wp2_with fail
   generalize World.alloc _ _=y at*;have l:=hid (aD y 1);refine wp_region_held_drew (S:=fun W=>W.rangeAt w.heap.size 0 (cf 20 f)) oK (bj d l) (fun i=>?_);have C:=hid i;refine tg 0 (.agg (cf 20 f).toArray) rfl (yieldsIf_load_mid oR _ _ rfl _ _ rfl (cf 20 f) _ (fun _ h=>h) Tryz.underlying45 rfl G) C ?_;simp only[jj];refine wpAnyH_ready (rs:=[1]) oK oS (AllReadyH.cons rfl (fun K D=>?_) AllReadyH.nil);go_simp
   refine (pY _).mono ?_;rintro r w1 ⟨rfl,g⟩;have j:=hid (btr l g);go_wp2_with fail
   refine D _ _ (bj d j) (fun i=>?_);have o:=hid i
   try simp only[Act.put,jD,jE,jF]
   refine tg 2 (.bool false) rfl (Or.inl ⟨oR,fun W _=>vX _ _ _ rfl f bl M rfl rfl W⟩) o ?_;simp only[jj];refine tk 3 (.bool false) rfl o ?_;simp only[jj];refine dK oK ?_ _;go_wp2_with fail
   go_ret
   exact⟨by rw[c.out];rfl,btr a j⟩
  |false=>
   have O:=hid (show ¬∀k,k<20->f k=bl k from fun e=>by rw[kx.2 e] at g;cases g);have c:=hid (show btB p n kd f=true by unfold btB;rw[ae z,g];rfl);go_enter Tryz.func107,Tryz.ntmps107
   go_wp2_with fail
   generalize World.alloc _ _=y at*;have l:=hid (aD y 1);refine wp_region_held_drew (S:=fun W=>W.rangeAt w.heap.size 0 (cf 20 f)) oK (bj d l) (fun i=>?_);have C:=hid i;refine tg 0 (.agg (cf 20 f).toArray) rfl (yieldsIf_load_mid oR _ _ rfl _ _ rfl (cf 20 f) _ (fun _ h=>h) Tryz.underlying45 rfl G) C ?_;simp only[jj];refine wpAnyH_ready (rs:=[1]) oK oS (AllReadyH.cons rfl (fun K D=>?_) AllReadyH.nil);go_simp
   refine (pY _).mono ?_;rintro r w1 ⟨rfl,g⟩;have j:=hid (btr l g);go_wp2_with fail
   refine D _ _ (bj d j) (fun i=>?_);have o:=hid i
   try simp only[Act.put,jD,jE,jF]
   refine tg 2 (.bool true) rfl (Or.inl ⟨oR,fun W _=>zg _ _ _ rfl f bl O rfl rfl W⟩) o ?_;simp only[jj];refine tk 3 (.bool true) rfl o ?_;simp only[jj];refine dK oK ?_ _;go_wp2_with fail
   go_ret
   exact⟨by rw[c.out];rfl,btr a j⟩
def emB (p:PW) (l:List Ent) (j:Nat) (e:Ent):Bool:=(l.take j).any (pg e.1 e.2.1)|| !fi p e
def bmB (p:PW) (l:List Ent):Bool:=decide (4<l.length)||(List.range l.length).any fun j=>match l[j]? with|some e=>emB p l j e|none=>false
theorem Ee {p:PW} {l:List Ent} (j:Nat) (a:j<l.length) (h:emB p l j l[j]=true):bmB p l=true:=by
  unfold bmB;rw[cJ];refine .inr (List.any_eq_true.2 ⟨j,List.mem_range.2 a,?_⟩);rw[ac a];exact h
theorem Gt {p:PW} {l:List Ent} (c:l.length<=4) (h:∀j (a:j<l.length),emB p l j l[j]=false):bmB p l=false:=by
  unfold bmB;rw[aw oA,Bool.false_or,bR];intro j a;have b:=List.mem_range.1 a;rw[ac b];simp[h j b]
theorem uM {l:List Ent} {s g:Int}:(jg l s g).2=l.any (pg s g):=by
  unfold jg;split
  · rename_i h;rw[List.findIdx_lt_length] at h;exact (List.any_eq_true.2 h).symm
  · rename_i h;rw[List.findIdx_lt_length] at h;refine (bR.2 fun x b a=>h ⟨x,b,a⟩).symm
theorem Au {w:World} {b off:Nat} {l:List Ent} (k:Nat) (hk:k<=l.length) (c:ji w b off l) (hl:l.length<=100) (c2:Nat):jk w (.slice (some ⟨b,off,none⟩) k c2) (l.take k):=by
  refine⟨some ⟨b,off,none⟩,b,off,c2,?_,fun _=>rfl,fun j a=>?_,?_⟩
  · rw[bL,Nat.min_eq_left hk]
  · rw[bL] at a;have:=c j oA;simpa using this
  · rw[bL];omega
theorem oJ (vb:Nat) (V:Nat->Value) (p:PW) (n:Int) (x:Value) (l:List Ent) (w:World) (X:ei w vb V p) (U:jW w (V 0) p.IE) (Y:jk w x l) (S:vx x):
    Calls Tryz.prog 114 #[.pointer (some ⟨vb,0,none⟩),.int .i64 n,x] w fun r w'=>r=.returned (.bool (bmB p l))∧Below w.heap.size w w':=by
  obtain⟨q,b,off,cap,rfl,T,Z,hl⟩:=Y;by_cases Q:4<l.length
  · have ad:(4:Int)<(l.length:Int):=oA;have HB:=hid (show bmB p l=true by unfold bmB;rw[aA Q];rfl);clear X U T Z Q S;go_enter Tryz.func114,Tryz.ntmps114
    go_wp2_with fail
    go_ret
    exact⟨by rw[HB.out];rfl,ag _ _⟩
  have ad:¬(4:Int)<(l.length:Int):=oA;have an:l.length<=cap:=S;clear S;have HV:=hid X;have HR:=hid U;have HQ:=hid T;have HZ:=hid Z;have al:l.length<=4:=oA;clear X U T Z Q;go_enter Tryz.func114,Tryz.ntmps114
  go_wp2_with fail
  go_loopw [16] (fun i wr=>∃k:Nat,k<=l.length∧i=.int .i64 k∧Hid (∀j (R:j<l.length),j<k->emB p l j l[j]=false)∧Hid (Below w.heap.size w wr)) (fun i _=>l.length - (intOf i).toNat)
  case atStart=>exact⟨0,oA,rfl,hid fun j _ h=>oA,hid (ag _ _)⟩
  case round=>
    obtain⟨k,hk,rfl,HE,G⟩:=hrel;by_cases C:k<l.length
    · have am:(k:Int)<(l.length:Int):=oA;have ae:=HQ.out oA;subst ae;obtain⟨c0,c1,c2,P⟩:=(HZ.below G) k C;have E:=hid (show emB p l k l[k]=true->bmB p l=true from fun h=>Ee k C h);have F:=hid (show emB p l k l[k]=false->∀j (R:j<l.length),j<k+1->emB p l j l[j]=false from fun hf j R ah=>by
        by_cases e:j=k
        · subst e;exact hf
        · exact HE j R oA)
      generalize l[k]=e at c0 c1 c2 P E F;obtain⟨s,g,f,B⟩:=e;simp only at c0 c1 c2 P;go_upto_region 6 with fail
      have I:=hid (bM wr #[.int .i64 s,.int .i64 g,.int .i64 f,.bool B] 56);have J:=hid (bal (ag wr.heap.size wr) (.cells #[.int .i64 s,.int .i64 g,.int .i64 f,.bool B] 56));have H:=hid (show (wr.alloc (.cells #[.int .i64 s,.int .i64 g,.int .i64 f,.bool B] 56)).heap.size=wr.heap.size+1 by simp);generalize World.alloc _ _=a at I J H ⊢;have A:=hid (show ∀W,Below a.heap.size a W->W.cell? ⟨wr.heap.size,0,none⟩=some (.int .i64 s)∧W.cell? ⟨wr.heap.size,1,none⟩=some (.int .i64 g) from fun W c=>⟨cZ I (by rw[H.out];omega) c 0,cZ I (by rw[H.out];omega) c 1⟩);have FV:=hid (show ∀W,Below a.heap.size a W->jk W (.slice (some ⟨b,off,none⟩) k cap) (l.take k) from fun W c=>Au k oA (HZ.below (btr (btr G J) c)) oA cap);have m:Hid (Below a.heap.size a a.drew):=hid (aD a 1);have ai:(k:Int)<=(cap:Int):=oA;have N:=hid (uM (l:=l.take k) (s:=s) (g:=g));clear c0 c1 c2 P;have L:=hid (fun W h=>zi _ (l.take k) s g W (FV.out W h));generalize jg (l.take k) s g=fr at L N;obtain⟨⟨x,y,z,d⟩,t⟩:=fr;go_cut [10] (fun r wx=>Hid (r=.bool ((l.take k).any (pg s g)))∧Hid (Below a.heap.size a wx))
      case first=>
        go_region_held3 (fun W=>W.cell? ⟨wr.heap.size,0,none⟩=some (.int .i64 s)∧W.cell? ⟨wr.heap.size,1,none⟩=some (.int .i64 g))
          (first
            |exact A _ K1
            |exact A _ (bal v _)
            |exact A _ v
            |exact A _ (bal m _)
            |exact A _ m)
          (first
            |(go_at_call 52;refine (L.out _ m).mono ?_;rintro r w1 ⟨rfl,c⟩;have v:=hid (btr m c);clear c;unfold iJ)
            |(go_at_call 52;refine (L.out _ (bal m _)).mono ?_;rintro r w1 ⟨rfl,c⟩;have v:=hid (btr (bal m _) c);have ac:=hid (cZ (ky a.drew #[.int .i64 0,.int .i64 0,.int .i64 0,.bool false] 56 a.heap.size rfl) (show a.heap.size<_ by simp) c);have X4:∀o,w1.cell? ⟨a.heap.size,o,none⟩=(#[.int .i64 0,.int .i64 0,.int .i64 0,.bool false]:Array Value)[o]? :=ac.out;have z0:w1.frozen? ⟨a.heap.size,0,none⟩=false:=(c.frozen (p:=⟨a.heap.size,0,none⟩) oS).trans (ik a.drew 0 oD);have z1:w1.frozen? ⟨a.heap.size,1,none⟩=false:=(c.frozen (p:=⟨a.heap.size,1,none⟩) oS).trans (ik a.drew 1 oD);have z2:w1.frozen? ⟨a.heap.size,2,none⟩=false:=(c.frozen (p:=⟨a.heap.size,2,none⟩) oS).trans (ik a.drew 2 oD);have z3:w1.frozen? ⟨a.heap.size,3,none⟩=false:=(c.frozen (p:=⟨a.heap.size,3,none⟩) oS).trans (ik a.drew 3 oD);have K1:=hid (show Below a.heap.size a ((((w1.setCell ⟨a.heap.size,0,none⟩ (.int .i64 x)).setCell ⟨a.heap.size,1,none⟩ (.int .i64 y)).setCell ⟨a.heap.size,2,none⟩ (.int .i64 z)).setCell ⟨a.heap.size,3,none⟩ (.bool d)) from iA (iA (iA (iA v (aq _) _) (aq _) _) (aq _) _) (aq _) _);clear c;unfold iJ))
        all_goals (go_wp2_with fail;go_meet;exact⟨hid (by rw[<-N.out]),(by first|exact K1|exact hid (bal v _)|exact v)⟩)
      case rest=>
        obtain⟨Y,M⟩:=hcut;obtain rfl:=Y.out;have u:=cZ I (show wr.heap.size<a.heap.size by rw[H.out];omega) M;have K:=hid (btr (btr G J) M);have ab:=hid (HV.below K);have aa:=hid (HR.below K);clear I A FV m L N M J H G
        cases ht:(l.take k).any (pg s g) with
        |true=>
          have D:=hid (E.out (by unfold emB;rw[ht];rfl));clear ht F E;go_wp2_with fail
          go_quiet (fail)
          have BB:=hid (aE K nq);generalize World.drewN _ _=W4 at BB ⊢;go_wp2_with fail
          go_ret
          exact⟨by rw[D.out];rfl,BB.out⟩
        |false=>
          have D:=hid (show emB p l k (s,g,f,B)= !fi p (s,g,f,B) by unfold emB;rw[ht];rfl);clear ht;have A:=hid (show ∀W,Below wc.heap.size wc W->W.cell? ⟨wr.heap.size,0,none⟩=some (.int .i64 s)∧W.cell? ⟨wr.heap.size,1,none⟩=some (.int .i64 g)∧W.cell? ⟨wr.heap.size,2,none⟩=some (.int .i64 f)∧W.cell? ⟨wr.heap.size,3,none⟩=some (.bool B) from fun W c=>by
            have C:=aj wc ⟨wr.heap.size,0,none⟩ (u 0);exact⟨cZ u C c 0,cZ u C c 1,cZ u C c 2,cZ u C c 3⟩)
          have m:Hid (Below wc.heap.size wc wc.drew):=hid (aD wc 1);have d0:=u 0;have d1:=u 1;have d2:=u 2;have d3:=u 3;clear u;go_wp2_with fail
          go_region_held3 (fun W=>W.cell? ⟨wr.heap.size,0,none⟩=some (.int .i64 s)∧W.cell? ⟨wr.heap.size,1,none⟩=some (.int .i64 g)∧W.cell? ⟨wr.heap.size,2,none⟩=some (.int .i64 f)∧W.cell? ⟨wr.heap.size,3,none⟩=some (.bool B))
            (first
              |exact A _ v
              |exact A _ m)
            (first
              |(go_at_call 163;refine (Av vb V p s g f B _ (ab.below m) (aa.below m)).mono ?_;rintro r w1 ⟨rfl,c⟩;have v:=hid (btr m c);clear c))
          have BZ:=hid (btr K v)
          cases ht:fi p (s,g,f,B) with
          |true=>
            have O:=hid (F.out (by rw[D.out,ht];rfl));clear ht D E F;go_wp2_with fail
            exact⟨⟨k+1,oA,by go_num,O,BZ⟩,by simp[intOf];omega⟩
          |false=>
            have O:=hid (E.out (by rw[D.out,ht];rfl));clear ht D E F;go_wp2_with fail
            go_ret
            exact⟨by rw[O.out];rfl,BZ.out⟩
    · obtain rfl:k=l.length:=oA;have af:¬((l.length:Int)<(l.length:Int)):=oA;have HF:=hid (show bmB p l=false from Gt oA fun k h=>HE.out k h h);go_wp2_with fail
      go_ret
      exact⟨by rw[HF.out];rfl,G.out⟩
theorem zd {p:PW} {l:List Ent} {j:Nat} {e:Ent} (h:emB p l j e=false):fi p e=true∧(l.take j).any (pg e.1 e.2.1)=false:=by
  unfold emB at h;rw[eQ] at h;exact⟨by simpa using h.2,h.1⟩
