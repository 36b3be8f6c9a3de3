/- Uaf -/
import Derived.Deep.RegionHeld3
import Derived.BigQuiet
import Derived.BigGuard
import Derived.BigCall
import Derived.Test.YtnccmdndkmmhcaaGreatDoorChecked
import Derived.Test.YtnccmdndkmmhcaaGreatDoorUae
set_option maxRecDepth 100000
set_option maxHeartbeats 16000000
namespace Go.Proofs.YtnccmdndkmmhcaaGreatDoor
namespace Wd
open Go.RowKit Mem Bw Nums Mmu
def zkB (s:Nat->Int):Bool:=decide (s 0=0∧s 1=0∧s 2=0∧s 3=0∧s 4=0∧s 5=0)
theorem Cw (s:Nat->Int) (w:World):(Op.equalIn 10000 32 (.agg #[.int .i64 (s 0),.int .i64 (s 1),.int .i64 (s 2),.int .i64 (s 3),.int .i64 (s 4),.int .i64 (s 5)]) (.agg zK)).run Tryz.prog w=.ok (zkB s) w:=by
 have f:Tryz.prog.underlying 32=some (.struct (Tryz.prog.fieldsOf 32)):=oK;have g:Tryz.prog.stoodInHeld 32=false:=oK;rw[show (10000:Nat)=9999+1 from rfl,run_equalIn_struct w 9999 _ _ _ f g];simp only[Program.fieldsOf,Tryz.underlying32];have hi:∀a b:Int,(Op.equalIn 9999 3 (.int .i64 a) (.int .i64 b)).run Tryz.prog w=.ok (a==b) w:=fun a b=>xg 9998 a b w;have d:∀o,o<6->(part 3 #[.int .i64 (s 0),.int .i64 (s 1),.int .i64 (s 2),.int .i64 (s 3),.int .i64 (s 4),.int .i64 (s 5)] o).run Tryz.prog w=.ok (.int .i64 (s o)) w:=fun o c=>sT 6 s o c w;have e:∀o,o<6->(part 3 zK o).run Tryz.prog w=.ok (.int .i64 0) w:=fun o c=>sT 6 (fun _=>0) o c w;unfold zkB;simp[Op.eqFields,Sem.run_bind,d,e,hi]
 (repeat' split)<;>simp_all
theorem Bp {ops:Array Oper} {rest:List Oper} {op:Oper} {a:Act} {w:World} {Q:Exit->Act->World->Prop} (f:op.guard=none) (x y:Operand) (m:TypeId) (j:op.op=.binOp .eql 32 x y m) (s:Nat->Int) {b:Bool} (d:zkB s=b)
  (k:a.eval x=.agg #[.int .i64 (s 0),.int .i64 (s 1),.int .i64 (s 2),.int .i64 (s 3),.int .i64 (s 4),.int .i64 (s 5)]) (l:a.eval y=.agg zK) (h:wpList Tryz.prog ops Q rest (a.put op.dst (.bool b)) w):wpList Tryz.prog ops Q (op::rest) a w:=
 wpList_plain f fun _ c=>by
  have g:Tryz.prog.eqGuardType Tryz.prog.depth 32=false:=oK;have i:(binOp .eql 32 (.agg #[.int .i64 (s 0),.int .i64 (s 1),.int .i64 (s 2),.int .i64 (s 3),.int .i64 (s 4),.int .i64 (s 5)]) (.agg zK)).run Tryz.prog w=.ok (.bool b) w:=by rw[run_eql_struct,Cw s,d];rfl
  unfold Oper.wp;have e:(execOp a.eval op).run Tryz.prog w=.ok (.value (.bool b)) w:=by
   unfold execOp;simp only[j,k,l,dZ,run_eqGuard_agg (P:=Tryz.prog) w .eql 32 x y #[.int .i64 (s 0),.int .i64 (s 1),.int .i64 (s 2),.int .i64 (s 3),.int .i64 (s 4),.int .i64 (s 5)] zK g,i,Result.andThen_ok,Sem.run_pure]
  rw[e];exact c _ _ h
def bsB (p:PW) (kd:Int) (s:Nat->Int):Bool:=if zkB s then s 6 != -1 else !(kd==5&&opB p s&&mdB p s&& !yQ p (s 6))
def srB (p:PW) (n:Int) (f:Nat->Int):Bool:=if pl (f 9)=0 then f 14== -1&&((cna n p.lines:Nat):Int)==0 else isB p (f 14) (pl (f 9))&&((cna n p.lines:Nat):Int)==1&&((cn n (p.lines.getD (f 14).toNat []):Nat):Int)==1
theorem nj (vb:Nat) (V:Nat->Value) (p:PW) (n:Int) (f:Nat->Int) (w:World) (hv:d6 w vb V p) (G:p.lines.length=p.kinds.length):
  Calls Tryz.prog 143 #[.pointer (some ⟨vb,0,none⟩),.int .i64 n,.agg (cf 20 f).toArray] w fun r w'=>r=.returned (.bool (srB p n f))∧Below w.heap.size w w':=by
 have e:=hid (bal (af w.heap.size w) (.cells (cf 20 f).toArray 37));have z:=hid (DP w f 37);have S:=r11 4 (hv.below e).r;have Z:=eB z 9 oA;have H:=eB z 14 oA;have g:=hid (lC (V 4) p.lines n (w.alloc (.cells (cf 20 f).toArray 37)) (hv.v.lines.below e) hv.f.lines hv.f.line);have C:=hid (fun (x k:Int) (m:Nat)=>i7 vb V p x k ((w.alloc (.cells (cf 20 f).toArray 37)).drewN m) (hv.below (aG e m)));have K:=hid hv.v.lines;have I:=hid hv.f.line;have u:(cna n p.lines:Int)<=1000000:=by have:=oY n p.lines p.lines.length hv.f.line;rw[cO] at this;have:=hv.f.lines;omega
 have Y:(p.lines.length:Int)<=1000:=by have:=hv.f.lines;omega
 have c:=hid (show srB p n f=if pl (f 9)=0 then f 14== -1&&((cna n p.lines:Nat):Int)==0 else isB p (f 14) (pl (f 9))&&((cna n p.lines:Nat):Int)==1&&((cn n (p.lines.getD (f 14).toNat []):Nat):Int)==1 from rfl);have l:=hid (fun W=>sU (f 9) W);generalize pl (f 9)=kd at c l;have J:=hid G;clear hv z G;by_cases hk:kd=0
 ·rw[ag hk] at c;subst hk;by_cases t:f 14= -1
  ·have d:=hid (show srB p n f=(((cna n p.lines:Nat):Int)==0) by rw[c.out,t];rfl);rw[t] at H;generalize cna n p.lines=a at g u d;clear c;go_enter Tryz.func143,Tryz.ntmps143
   go_wp2_with fail
   refine g.mono ?_;rintro r w1 ⟨rfl,rfl⟩;go_wp2_with fail
   refine (l.out _).mono ?_;rintro r w1 ⟨rfl,rfl⟩;go_wp2_with fail
   go_ret
   exact⟨by rw[d.out];rfl,e.out⟩
  ·have d:=hid (show srB p n f=false by rw[c.out,show (f 14== -1)=false by simpa using t];rfl);have T:(f 14== -1)=false:=by simpa using t
   generalize cna n p.lines=a at g u;clear c;go_enter Tryz.func143,Tryz.ntmps143
   go_wp2_with fail
   refine g.mono ?_;rintro r w1 ⟨rfl,rfl⟩;go_wp2_with fail
   refine (l.out _).mono ?_;rintro r w1 ⟨rfl,rfl⟩;go_wp2_with fail
   go_ret
   exact⟨by rw[d.out];rfl,e.out⟩
 rw[ae hk] at c;have X:(kd !=0)=true:=by simpa using hk
 cases hi:isB p (f 14) kd with
 |false=>
  have d:=hid (show srB p n f=false by rw[c.out,hi];rfl);have s:=hid (show ∀m,Calls Tryz.prog 145 #[.pointer (some ⟨vb,0,none⟩),.int .i64 (f 14),.int .i64 kd] ((w.alloc (.cells (cf 20 f).toArray 37)).drewN m) fun r w'=>r=.returned (.bool false)∧w'=((w.alloc (.cells (cf 20 f).toArray 37)).drewN m) from fun m=>(C.out (f 14) kd m).mono fun r w' h=>⟨by rw[h.1,hi],h.2.symm⟩);have o:=hid trivial;generalize cna n p.lines=a at g u;clear c hi o;go_enter Tryz.func143,Tryz.ntmps143
  go_wp2_with fail
  refine g.mono ?_;rintro r w1 ⟨rfl,rfl⟩;go_wp2_with fail
  refine (l.out _).mono ?_;rintro r w1 ⟨rfl,rfl⟩;go_wp2_with fail
  go_quiet (first|(go_at_call 145;refine bF (s.out _)))
  have i:=hid (aG e nq);generalize World.drewN _ _=D at i ⊢;go_wp2_with fail
  go_ret
  exact⟨by rw[d.out];rfl,i.out⟩
 |true=>
  obtain⟨j,A,M⟩:=jV hi;have s:=hid (show ∀m,Calls Tryz.prog 145 #[.pointer (some ⟨vb,0,none⟩),.int .i64 (j:Int),.int .i64 kd] ((w.alloc (.cells (cf 20 f).toArray 37)).drewN m) fun r w'=>r=.returned (.bool true)∧w'=((w.alloc (.cells (cf 20 f).toArray 37)).drewN m) from fun m=>(C.out j kd m).mono fun r w' h=>⟨by rw[h.1, <-A,hi],h.2.symm⟩);rw[hi,A,ah] at c;rw[A] at H;have B:j<p.lines.length:=by rw[J.out];exact M
  have U:(j:Int)<(p.lines.length:Int):=oA;by_cases F:cna n p.lines=1
  ·obtain⟨q,b,off,cap,e4,N,P⟩:=K.out;obtain rfl:=N oA;obtain⟨y,E,O⟩:=P j B;have R:=(e.cell (aj _ _ E)).trans E;have o:=hid (show ∀m,Calls Tryz.prog 197 #[y,.int .i64 n] ((w.alloc (.cells (cf 20 f).toArray 37)).drewN m) fun r w'=>r=.returned (.int .i64 (cn n p.lines[j]))∧w'=((w.alloc (.cells (cf 20 f).toArray 37)).drewN m) from fun m=>(mB y p.lines[j] n _ (O.below (aG e m)) (I.out _ (av B))).mono fun _ _ h=>⟨h.1,h.2.symm⟩);have d:=hid (show srB p n f=(((cn n p.lines[j]:Nat):Int)==1) by rw[c.out,F,aa,ac B];rfl);rw[F,e4] at g;generalize cn n p.lines[j]=Q at o d;go_enter Tryz.func143,Tryz.ntmps143
   go_wp2_with fail
   refine g.mono ?_;rintro r w1 ⟨rfl,rfl⟩;go_wp2_with fail
   refine (l.out _).mono ?_;rintro r w1 ⟨rfl,rfl⟩;go_wp2_with fail
   go_quiet (first|(go_at_call 145;refine bF (s.out _))|(go_at_call 197;refine bF (o.out _)))
   have i:=hid (aG e nq);generalize World.drewN _ _=D at i ⊢;go_wp2_with fail
   go_ret
   exact⟨by rw[d.out];rfl,i.out⟩
  ·have d:=hid (show srB p n f=false by
    have:((((cna n p.lines:Nat):Int))==1)=false:=by simp;omega
    rw[c.out,this];rfl)
   have L:(((cna n p.lines:Nat):Int)==1)=false:=by simp;omega
   generalize cna n p.lines=a at g u L;go_enter Tryz.func143,Tryz.ntmps143
   go_wp2_with fail
   refine g.mono ?_;rintro r w1 ⟨rfl,rfl⟩;go_wp2_with fail
   refine (l.out _).mono ?_;rintro r w1 ⟨rfl,rfl⟩;go_wp2_with fail
   go_quiet (first|(go_at_call 145;refine bF (s.out _)))
   have i:=hid (aG e nq);generalize World.drewN _ _=D at i ⊢;go_wp2_with fail
   go_ret
   exact⟨by rw[d.out];rfl,i.out⟩
theorem Ek {n:Nat} {f g:Nat->Int} (h:∀k,k<n->f k=g k):cf n f=cf n g:=by
 unfold cf;exact eI fun k hk=>by rw[h k (List.mem_range.1 hk)]
theorem wG {ρ:Operand->Value} {o:Oper} (x y:Operand) (a:TypeId) (b:o.op=.binOp .neq 37 x y a) (f g:Nat->Int) (h:∀k,k<20->f k=g k) (c:ρ x=.agg (cf 20 f).toArray) (d:ρ y=.agg (cf 20 g).toArray) (W:World):(execOp ρ o).run Tryz.prog W=.ok (.value (.bool false)) W:=
 wH x y a b g (by rw[c,Ek h]) d W
theorem nB {ops:Array Oper} {rest:List Oper} {op:Oper} {a:Act} {w:World} {Q:Exit->Act->World->Prop} (g:Region.wanted op (yielded ops a.tmps)=true) (x:Operand) (e:op.op=.load 37 x)
  (b:Nat) (i:a.eval x=.pointer (some ⟨b,0,none⟩)) (f:Nat->Int) (d:w.rangeAt b 0 (cf 20 f))
  (h:wpList Tryz.prog ops Q rest (a.put op.dst (.agg (cf 20 f).toArray)) w):wpList Tryz.prog ops Q (op::rest) a w:=
 BigFrame.wpList_want g fun _ c=>wp_load_mid 37 x e b 0 i (cf 20 f) _ d Tryz.underlying37 rfl (by rw[ay];exact gV) (c _ _ h)
def zb (f:Nat->Int):Bool:=(List.range 20).all fun k=>f k==bl k
theorem mo {f:Nat->Int}:zb f=true↔∀k,k<20->f k=bl k:=by
 unfold zb;rw[aU];constructor
 ·intro h k hk;simpa using h k (List.mem_range.2 hk)
 ·intro h k hk;simpa using h k (List.mem_range.1 hk)
def btB (p:PW) (n kind:Int) (f:Nat->Int):Bool:=if kind=6 then !(nfB p f&&ffB p f&&dbB p n f&&srB p n f&&rrB p n f) else !zb f
theorem xZ {p:PW} {f:Nat->Int} (c:p.II.length=p.kinds.length) (h:ffB p f=true):f 17= -1∨∃j:Nat,j<p.II.length∧f 17=j:=by
 unfold ffB at h;rw[am] at h;have a:=h.2;unfold fB at a;rw[cF] at a;rcases a with a|a
 ·exact .inl (by simpa using a)
 ·obtain⟨j,e,b⟩:=jV a;exact .inr ⟨j,oA,e⟩
def emB (p:PW) (l:List Ent) (j:Nat) (e:Ent):Bool:=(l.take j).any (pg e.1 e.2.1)|| !d7 p e
def bmB (p:PW) (l:List Ent):Bool:=decide (4<l.length)||(List.range l.length).any fun j=>match l[j]? with|some e=>emB p l j e|none=>false
theorem Ef {p:PW} {l:List Ent} (j:Nat) (a:j<l.length) (h:emB p l j l[j]=true):bmB p l=true:=by
  unfold bmB;rw[cF];refine .inr (List.any_eq_true.2 ⟨j,List.mem_range.2 a,?_⟩);rw[ac a];exact h
theorem Gu {p:PW} {l:List Ent} (c:l.length<=4) (h:∀j (a:j<l.length),emB p l j l[j]=false):bmB p l=false:=by
  unfold bmB;rw[aw oA,eU,bO];intro j a;have b:=List.mem_range.1 a;rw[ac b];simp[h j b]
theorem vd {l:List Ent} {s g:Int}:(jc l s g).2=l.any (pg s g):=by
  unfold jc;split
  · rename_i h;rw[List.findIdx_lt_length] at h;exact (List.any_eq_true.2 h).symm
  · rename_i h;rw[List.findIdx_lt_length] at h;refine (bO.2 fun x b a=>h ⟨x,b,a⟩).symm
theorem AB {w:World} {b off:Nat} {l:List Ent} (k:Nat) (hk:k<=l.length) (c:gx w b off l) (hl:l.length<=100) (c2:Nat):jb w (.slice (some ⟨b,off,none⟩) k c2) (l.take k):=by
  refine⟨some ⟨b,off,none⟩,b,off,c2,?_,fun _=>rfl,fun j a=>?_,?_⟩
  · rw[bH,Nat.min_eq_left hk]
  · rw[bH] at a;have:=c j oA;simpa using this
  · rw[bH];omega
theorem oT (vb:Nat) (V:Nat->Value) (p:PW) (n:Int) (x:Value) (l:List Ent) (w:World) (hv:d6 w vb V p) (U:jW w (V 0) p.IL) (X:jb w x l) (S:vP x):
    Calls Tryz.prog 61 #[.pointer (some ⟨vb,0,none⟩),.int .i64 n,x] w fun r w'=>r=.returned (.bool (bmB p l))∧Below w.heap.size w w':=by
  obtain⟨q,b,off,cap,rfl,T,Y,hl⟩:=X;by_cases Q:4<l.length
  · have ad:(4:Int)<(l.length:Int):=oA;have HB:=hid (show bmB p l=true by unfold bmB;rw[az Q];rfl);clear hv U T Y Q S;go_enter Tryz.func61,Tryz.ntmps61
    go_wp2_with fail
    go_ret
    exact⟨by rw[HB.out];rfl,af _ _⟩
  have ad:¬(4:Int)<(l.length:Int):=oA;have an:l.length<=cap:=S;clear S;have HV:=hid hv;have HR:=hid U;have HQ:=hid T;have HZ:=hid Y;have al:l.length<=4:=oA;clear hv U T Y Q;go_enter Tryz.func61,Tryz.ntmps61
  go_wp2_with fail
  go_loopw [16] (fun i wr=>∃k:Nat,k<=l.length∧i=.int .i64 k∧Hid (∀j (R:j<l.length),j<k->emB p l j l[j]=false)∧Hid (Below w.heap.size w wr)) (fun i _=>l.length - (intOf i).toNat)
  case atStart=>exact⟨0,oA,rfl,hid fun j _ h=>oA,hid (af _ _)⟩
  case round=>
    obtain⟨k,hk,rfl,HE,G⟩:=hrel;by_cases C:k<l.length
    · have am:(k:Int)<(l.length:Int):=oA;have ae:=HQ.out oA;subst ae;obtain⟨c0,c1,c2,P⟩:=(HZ.below G) k C;have E:=hid (show emB p l k l[k]=true->bmB p l=true from fun h=>Ef k C h);have F:=hid (show emB p l k l[k]=false->∀j (R:j<l.length),j<k+1->emB p l j l[j]=false from fun hf j R ah=>by
        by_cases e:j=k
        · subst e;exact hf
        · exact HE j R oA)
      generalize l[k]=e at c0 c1 c2 P E F;obtain⟨s,g,f,B⟩:=e;simp only at c0 c1 c2 P;go_upto_region 6 with fail
      have I:=hid (cq wr #[.int .i64 s,.int .i64 g,.int .i64 f,.bool B] 40);have J:=hid (bal (af wr.heap.size wr) (.cells #[.int .i64 s,.int .i64 g,.int .i64 f,.bool B] 40));have H:=hid (show (wr.alloc (.cells #[.int .i64 s,.int .i64 g,.int .i64 f,.bool B] 40)).heap.size=wr.heap.size+1 by simp);generalize World.alloc _ _=a at I J H ⊢;have A:=hid (show ∀W,Below a.heap.size a W->W.cell? ⟨wr.heap.size,0,none⟩=some (.int .i64 s)∧W.cell? ⟨wr.heap.size,1,none⟩=some (.int .i64 g) from fun W c=>⟨cT I (by rw[H.out];omega) c 0,cT I (by rw[H.out];omega) c 1⟩);have FV:=hid (show ∀W,Below a.heap.size a W->jb W (.slice (some ⟨b,off,none⟩) k cap) (l.take k) from fun W c=>AB k oA (HZ.below (btr (btr G J) c)) oA cap);have m:Hid (Below a.heap.size a a.drew):=hid (aD a 1);have ai:(k:Int)<=(cap:Int):=oA;have N:=hid (vd (l:=l.take k) (s:=s) (g:=g));clear c0 c1 c2 P;have L:=hid (fun W h=>zu _ (l.take k) s g W (FV.out W h));generalize jc (l.take k) s g=fr at L N;obtain⟨⟨x,y,z,d⟩,t⟩:=fr;go_cut [10] (fun r wx=>Hid (r=.bool ((l.take k).any (pg s g)))∧Hid (Below a.heap.size a wx))
      case first=>
        go_region_held3 (fun W=>W.cell? ⟨wr.heap.size,0,none⟩=some (.int .i64 s)∧W.cell? ⟨wr.heap.size,1,none⟩=some (.int .i64 g))
          (first
            |exact A _ K1
            |exact A _ (bal v _)
            |exact A _ v
            |exact A _ (bal m _)
            |exact A _ m)
          (first
            |(go_at_call 148;refine (L.out _ m).mono ?_;rintro r w1 ⟨rfl,c⟩;have v:=hid (btr m c);clear c;unfold iF)
            |(go_at_call 148;refine (L.out _ (bal m _)).mono ?_;rintro r w1 ⟨rfl,c⟩;have v:=hid (btr (bal m _) c);have ac:=hid (cT (ir a.drew #[.int .i64 0,.int .i64 0,.int .i64 0,.bool false] 40 a.heap.size rfl) (show a.heap.size<_ by simp) c);have X4:∀o,w1.cell? ⟨a.heap.size,o,none⟩=(#[.int .i64 0,.int .i64 0,.int .i64 0,.bool false]:Array Value)[o]? :=ac.out;have z0:w1.frozen? ⟨a.heap.size,0,none⟩=false:=(c.frozen (p:=⟨a.heap.size,0,none⟩) oS).trans (hQ a.drew 0 oD);have z1:w1.frozen? ⟨a.heap.size,1,none⟩=false:=(c.frozen (p:=⟨a.heap.size,1,none⟩) oS).trans (hQ a.drew 1 oD);have z2:w1.frozen? ⟨a.heap.size,2,none⟩=false:=(c.frozen (p:=⟨a.heap.size,2,none⟩) oS).trans (hQ a.drew 2 oD);have z3:w1.frozen? ⟨a.heap.size,3,none⟩=false:=(c.frozen (p:=⟨a.heap.size,3,none⟩) oS).trans (hQ a.drew 3 oD);have K1:=hid (show Below a.heap.size a ((((w1.setCell ⟨a.heap.size,0,none⟩ (.int .i64 x)).setCell ⟨a.heap.size,1,none⟩ (.int .i64 y)).setCell ⟨a.heap.size,2,none⟩ (.int .i64 z)).setCell ⟨a.heap.size,3,none⟩ (.bool d)) from iq (iq (iq (iq v (aq _) _) (aq _) _) (aq _) _) (aq _) _);clear c;unfold iF))
        all_goals (go_wp2_with fail;go_meet;exact⟨hid (by rw[<-N.out]),(by first|exact K1|exact hid (bal v _)|exact v)⟩)
      case rest=>
        obtain⟨X,M⟩:=hcut;obtain rfl:=X.out;have u:=cT I (show wr.heap.size<a.heap.size by rw[H.out];omega) M;have K:=hid (btr (btr G J) M);have ab:=hid (HV.below K);have aa:=hid (HR.below K);clear I A FV m L N M J H G
        cases ht:(l.take k).any (pg s g) with
        |true=>
          have D:=hid (E.out (by unfold emB;rw[ht];rfl));clear ht F E;go_wp2_with fail
          go_quiet (fail)
          have Z:=hid (aG K nq);generalize World.drewN _ _=W4 at Z ⊢;go_wp2_with fail
          go_ret
          exact⟨by rw[D.out];rfl,Z.out⟩
        |false=>
          have D:=hid (show emB p l k (s,g,f,B)= !d7 p (s,g,f,B) by unfold emB;rw[ht];rfl);clear ht;have A:=hid (show ∀W,Below wc.heap.size wc W->W.cell? ⟨wr.heap.size,0,none⟩=some (.int .i64 s)∧W.cell? ⟨wr.heap.size,1,none⟩=some (.int .i64 g)∧W.cell? ⟨wr.heap.size,2,none⟩=some (.int .i64 f)∧W.cell? ⟨wr.heap.size,3,none⟩=some (.bool B) from fun W c=>by
            have C:=aj wc ⟨wr.heap.size,0,none⟩ (u 0);exact⟨cT u C c 0,cT u C c 1,cT u C c 2,cT u C c 3⟩)
          have m:Hid (Below wc.heap.size wc wc.drew):=hid (aD wc 1);have d0:=u 0;have d1:=u 1;have d2:=u 2;have d3:=u 3;clear u;go_wp2_with fail
          go_region_held3 (fun W=>W.cell? ⟨wr.heap.size,0,none⟩=some (.int .i64 s)∧W.cell? ⟨wr.heap.size,1,none⟩=some (.int .i64 g)∧W.cell? ⟨wr.heap.size,2,none⟩=some (.int .i64 f)∧W.cell? ⟨wr.heap.size,3,none⟩=some (.bool B))
            (first
              |exact A _ v
              |exact A _ m)
            (first
              |(go_at_call 149;refine (uK vb V p s g f B _ (ab.below m) (aa.below m)).mono ?_;rintro r w1 ⟨rfl,c⟩;have v:=hid (btr m c);clear c))
          have BZ:=hid (btr K v)
          cases ht:d7 p (s,g,f,B) with
          |true=>
            have O:=hid (F.out (by rw[D.out,ht];rfl));clear ht D E F;go_wp2_with fail
            exact⟨⟨k+1,oA,by go_num,O,BZ⟩,by simp[intOf];omega⟩
          |false=>
            have O:=hid (E.out (by rw[D.out,ht];rfl));clear ht D E F;go_wp2_with fail
            go_ret
            exact⟨by rw[O.out];rfl,BZ.out⟩
    · obtain rfl:k=l.length:=oA;have ag:¬((l.length:Int)<(l.length:Int)):=oA;have HF:=hid (show bmB p l=false from Gu oA fun k h=>HE.out k h h);go_wp2_with fail
      go_ret
      exact⟨by rw[HF.out];rfl,G.out⟩
theorem zk {p:PW} {l:List Ent} {j:Nat} {e:Ent} (h:emB p l j e=false):d7 p e=true∧(l.take j).any (pg e.1 e.2.1)=false:=by
  unfold emB at h;rw[eG] at h;exact⟨by simpa using h.2,h.1⟩
def lk {α:Type} (bad:Nat->α->Bool) (l:List α):Option Nat:=(List.range l.length).find? fun k=>match l[k]? with|some x=>bad k x|none=>false
theorem xy {α:Type} {bad:Nat->α->Bool} {l:List α} (h:∀k (hk:k<l.length),bad k l[k]=false):lk bad l=none:=by
 unfold lk;rw[List.find?_eq_none];intro k hk;have a:=List.mem_range.1 hk;rw[ac a];simp[h k a]
theorem _root_.Go.Proofs.YtnccmdndkmmhcaaGreatDoor.eW:type_of% @xy:= @xy
theorem jZ {α:Type} {l:List α} {k:Nat} {d:α} (h:k<l.length):l.getD k d=l[k]:=by
 rw[aa,ac h];rfl
def sB:List (Int×Option Nat)->Int×Int
 |[]=>(0, -1)
 |(e,some k)::_=>(e,k)
 |(_,none)::r=>sB r
def Fi (p:PW):List (Int×Option Nat):=[(1,lk (fun _ x=>nwB x) p.IL),(3,lk (fun _ x=>nkB x) p.kinds),(2,lk (fun _ x=>nd x) p.IQ),(8,lk (fun k s=>bsB p (p.kinds.getD (k/16) 0) s) p.IH),(8,lk (fun k x=>bfB p k x) p.kinds),(8,lk (fun k f=>btB p k (p.kinds.getD k 0) f) p.II),(8,lk (fun k l=>blB p k (p.kinds.getD k 0) (p.bits.getD k 0) l) p.lines),(8,lk (fun k t=>bcB p k t) p.IJ),(8,lk (fun k l=>brB p k l) p.ready),(9,lk (fun k x=>beB p (p.kinds.getD (k/16) 0) x) p.IL),(9,lk (fun _ l=>bmB p l) p.IK)]
def wmA (p:PW):Int×Int:=if lfB p&&ek 0 1000000 p.time then sB (Fi p) else (2, -1)
theorem G5 {x:Int} (h:nwB x=false):0<=x∧x<=65535:=by
 unfold nwB wB at h;simpa using h
theorem FL {w:World} {V:Nat->Value} {p:PW} (hv:eu w V p) (hl:LF p) (a:∀k (hk:k<p.IL.length),0<=p.IL[k]∧p.IL[k]<=65535):jW w (V 0) p.IL:=
 ⟨hv.IL,fun z b=>by
  obtain⟨k,hk,rfl⟩:=List.mem_iff_getElem.1 b;have:=a k hk;omega,by
  have:=hl.IL;have:=hl.k2;omega⟩
theorem Ff {p:PW} {g:Nat->Int} (h:∀k (hk:k<p.IH.length),bsB p (g k) p.IH[k]=false):∀s∈p.IH,KB s:=fun s c=>by
 obtain⟨k,hk,rfl⟩:=List.mem_iff_getElem.1 c;have a:=h k hk;generalize p.IH[k]=s at a ⊢;have b:kc s=0:=by
  unfold bsB at a;split at a
  ·rename_i hz;have:=aA hz;unfold kc;rw[this.1];exact KP.Em this.2
  ·unfold opB at a;simp only[cU,am,bz] at a;exact a.1.1.2.1.1
 obtain⟨-, -,b0,b1,l0,l1,m0,m1, -, -, -, -⟩:=KP.ky b;refine⟨b0,oA,l0,oA,m0,oA,fun d=>?_⟩;have h:KP.chk (s 0) (s 1) (s 2) (s 3) (s 4) (s 5)=0:=b;rw[mx] at h;split at h
 ·omega
 split at h
 ·omega
 split at h
 ·omega
 ·omega
theorem Ik (a:Array Value) (W:World):(callFunc 47 a).run Tryz.prog W=.ok (.enter 47 a) W:=by
 go_simp
theorem Il (a:Array Value) (W:World):(callFunc 48 a).run Tryz.prog W=.ok (.enter 48 a) W:=by
 go_simp
theorem Im (a:Array Value) (W:World):(callFunc 49 a).run Tryz.prog W=.ok (.enter 49 a) W:=by
 go_simp
theorem Io (a:Array Value) (W:World):(callFunc 51 a).run Tryz.prog W=.ok (.enter 51 a) W:=by
 go_simp
theorem Ip (a:Array Value) (W:World):(callFunc 52 a).run Tryz.prog W=.ok (.enter 52 a) W:=by
 go_simp
theorem Iq (a:Array Value) (W:World):(callFunc 54 a).run Tryz.prog W=.ok (.enter 54 a) W:=by
 go_simp
theorem Ir (a:Array Value) (W:World):(callFunc 56 a).run Tryz.prog W=.ok (.enter 56 a) W:=by
 go_simp
theorem Is (a:Array Value) (W:World):(callFunc 57 a).run Tryz.prog W=.ok (.enter 57 a) W:=by
 go_simp
theorem It (a:Array Value) (W:World):(callFunc 58 a).run Tryz.prog W=.ok (.enter 58 a) W:=by
 go_simp
theorem Iu (a:Array Value) (W:World):(callFunc 59 a).run Tryz.prog W=.ok (.enter 59 a) W:=by
 go_simp
theorem Gv (a:Array Value) (W:World):(callFunc 61 a).run Tryz.prog W=.ok (.enter 61 a) W:=by
 go_simp
theorem Ix (v a:Int) (w:World):Calls Tryz.prog 62 #[.int .i64 v,.int .i64 a] w fun e w'=>e=.returned (.bool (!ek 0 a v))∧w=w':=
 (Isa.fy v a w).mono fun r w' h=>⟨by
  rw[h.1];unfold ek;by_cases hh:0<=v∧v<=a
  ·rw[az hh,aw oA];rfl
  ·rw[aw hh,az oA];rfl,h.2⟩
end Wd
namespace Cpu
open Go.RowKit Mem Bw
theorem mm (o:Int) (i:o=6∨o=7∨o=8) (a b:Nat) (p:a<65536) (q:b<65536) (w:World):
  Calls Tryz.prog 117 #[.int .i64 a,.int .i64 b,.int .i64 o] w fun e w'=>e=.returned (.int .i64 (bw o a b:Nat))∧w=w':=by
 have l:=hid (zd o a b p q);have n:=hid (fun k=>BM o a b k i);have m:=hid i;clear i;go_enter Tryz.func117,Tryz.ntmps117
 go_wp2_with fail
 go_loopw [7,8] (fun x d wr=>∃k D u:Nat,k<=16∧d=.int .i64 D∧x=.int .i64 u∧Hid (D=2 ^ k∧u=bw o a b%2 ^ k)∧wr=w) (fun _ d _=>65536*2 - (intOf d).toNat)
 case atStart=>exact⟨0,1,0,oA,rfl,rfl,⟨rfl,by simp[Nat.mod_one]⟩,rfl⟩
 case round=>
  obtain⟨k,D,u,hk,rfl,rfl,c,rfl⟩:=hrel;have t:0<D:=by rw[c.1];exact Nat.two_pow_pos k
  have A:(D:Int)≠0:=oA;have E:u<65536:=by rw[c.2];exact Nat.lt_of_le_of_lt (Nat.mod_le _ _) l
  by_cases C:k<16
  ·have z:D<=32768:=by
    rw[c.1];exact aB (Nat.pow_le_pow_right oD (by omega:k<=15)) oD
   have v:(D:Int)<65536:=oA;have I:(a:Int).tdiv (D:Int)=((a/D:Nat):Int):=by rw[bR oA];simp
   have J:(b:Int).tdiv (D:Int)=((b/D:Nat):Int):=by rw[bR oA];simp
   have la:a/D<65536:=Nat.lt_of_le_of_lt (Nat.div_le_self _ _) p;have H:b/D<65536:=Nat.lt_of_le_of_lt (Nat.div_le_self _ _) q;have j:=hid (show hit o a b k=decide (o=6∧a/D%2+b/D%2=2∨o=7∧0<a/D%2+b/D%2∨o=8∧a/D%2+b/D%2=1) by unfold hit bt;rw[c.1]);generalize a/D=x at*;generalize b/D=y at*;have F:x%2<2:=Nat.mod_lt _ oD;have G:y%2<2:=Nat.mod_lt _ oD
   cases hh:hit o a b k with
   |true=>
    have f:=hid (show D*2=2 ^ (k+1)∧u+D=bw o a b%2 ^ (k+1) from⟨by rw[c.1,Nat.pow_succ],by rw[n.out k,hh,ag rfl,c.2,c.1]⟩);have g:=j.out;rw[hh] at g;have h:=(decide_eq_true_iff.1 g.symm);clear hh g;rcases m.out with rfl|rfl|rfl
    ·have e1:((x:Int)%2+(y:Int)%2==2)=true:=bz.2 oA;clear h;go_wp2_with fail
     exact⟨⟨k+1,D*2,u+D,oA,by go_num,by go_num,f.out,trivial⟩,by simp[intOf];omega⟩
    ·have e1:(0:Int)<(x:Int)%2+(y:Int)%2:=oA;clear h;go_wp2_with fail
     exact⟨⟨k+1,D*2,u+D,oA,by go_num,by go_num,f.out,trivial⟩,by simp[intOf];omega⟩
    ·have e1:((x:Int)%2+(y:Int)%2==1)=true:=bz.2 oA;clear h;go_wp2_with fail
     exact⟨⟨k+1,D*2,u+D,oA,by go_num,by go_num,f.out,trivial⟩,by simp[intOf];omega⟩
   |false=>
    have f:=hid (show D*2=2 ^ (k+1)∧u=bw o a b%2 ^ (k+1) from⟨by rw[c.1,Nat.pow_succ],by rw[n.out k,hh,ae oD,c.2,bu]⟩);have g:=j.out;rw[hh] at g;have h:=(decide_eq_false_iff_not.1 g.symm);clear hh g;rcases m.out with rfl|rfl|rfl
    ·have e1:((x:Int)%2+(y:Int)%2==2)=false:=beq_eq_false_iff_ne.2 oA;clear h;go_wp2_with fail
     exact⟨⟨k+1,D*2,u,oA,by go_num,rfl,f.out,trivial⟩,by simp[intOf];omega⟩
    ·have e1:¬((0:Int)<(x:Int)%2+(y:Int)%2):=oA;clear h;go_wp2_with fail
     exact⟨⟨k+1,D*2,u,oA,by go_num,rfl,f.out,trivial⟩,by simp[intOf];omega⟩
    ·have e1:((x:Int)%2+(y:Int)%2==1)=false:=beq_eq_false_iff_ne.2 oA;clear h;go_wp2_with fail
     exact⟨⟨k+1,D*2,u,oA,by go_num,rfl,f.out,trivial⟩,by simp[intOf];omega⟩
  ·obtain rfl:k=16:=oA;have s:=c.1;have B:¬((D:Int)<65536):=oA;have r:=hid (show u=bw o a b by rw[c.2];exact Nat.mod_eq_of_lt l);go_wp2_with fail
   go_ret
   exact⟨pS (by show ((u:Nat):Int)=_;rw[r.out]),rfl⟩
theorem iO (o:Int) (d:o=6∨o=7∨o=8) (a b:Int) (w:World) (a0:0<=a) (a1:a<65536) (b0:0<=b) (b1:b<65536):
  Calls Tryz.prog 117 #[.int .i64 a,.int .i64 b,.int .i64 o] w fun e w'=>e=.returned (.int .i64 (bw o a.toNat b.toNat:Nat))∧w=w':=by
 have c:=mm o d a.toNat b.toNat oA oA w;rw[show ((a.toNat:Nat):Int)=a by omega,show ((b.toNat:Nat):Int)=b by omega] at c;exact c
end Cpu
namespace Wd
open Go.RowKit Mem Bw Nums Mmu
theorem oc {s:Nat->Int} (a:kc s=0) (d:¬s 0=0):0<=s 1∧s 1<=23∧1<=s 2∧s 2<=24∧0<=s 4∧s 4<=7:=by
 have h:KP.chk (s 0) (s 1) (s 2) (s 3) (s 4) (s 5)=0:=a;obtain⟨e,k1,b0,b1,l0,l1,m0,m1,f,g,b,c⟩:=KP.ky h;rw[mx] at h;split at h
 ·omega
 split at h
 ·omega
 split at h
 ·omega
 ·omega
def DZ (_p:PW) (_k:Nat) (x:Int):Bool:=nwB x
def D3 (_p:PW) (_k:Nat) (x:Int):Bool:=nkB x
def D6 (_p:PW) (_k:Nat) (x:Int):Bool:=nd x
def DN (p:PW) (k:Nat) (x:Nat->Int):Bool:=bsB p (p.kinds.getD (k/16) 0) x
def D9 (p:PW) (k:Nat) (x:Int):Bool:=bfB p k x
def DO (p:PW) (k:Nat) (x:Nat->Int):Bool:=btB p k (p.kinds.getD k 0) x
def Eb (p:PW) (k:Nat) (x:List Int):Bool:=blB p k (p.kinds.getD k 0) (p.bits.getD k 0) x
def Ec (p:PW) (k:Nat) (x:Int):Bool:=bcB p k x
def Ed (p:PW) (k:Nat) (x:List Int):Bool:=brB p k x
def Gb (p:PW) (k:Nat) (x:Int):Bool:=beB p (p.kinds.getD (k/16) 0) x
def y9 (p:PW) (_k:Nat) (x:List Ent):Bool:=bmB p x
theorem pA (p:PW):Fi p=[(1,lk (DZ p) p.IL),(3,lk (D3 p) p.kinds),(2,lk (D6 p) p.IQ),(8,lk (DN p) p.IH),(8,lk (D9 p) p.kinds),(8,lk (DO p) p.II),(8,lk (Eb p) p.lines),(8,lk (Ec p) p.IJ),(8,lk (Ed p) p.ready),(9,lk (Gb p) p.IL),(9,lk (y9 p) p.IK)]:=rfl
theorem Fg {p:PW} (a1:¬(p.kinds.length:Int)<1) (a:¬(24:Int)<p.kinds.length) (b1:¬(p.IJ.length:Int)<1) (b2:¬(4:Int)<p.IJ.length) (c1:¬(p.IQ.length:Int)<1) (c2:¬(8:Int)<p.IQ.length) (b:(p.IL.length:Int)=(p.kinds.length:Int)*16) (d2:(p.IH.length:Int)=(p.kinds.length:Int)*16) (c:(p.II.length:Int)=p.kinds.length) (d:(p.lines.length:Int)=p.kinds.length) (e:(p.bits.length:Int)=p.kinds.length) (f:(p.ready.length:Int)=(p.IJ.length:Int)*4) (g:(p.IK.length:Int)=p.IJ.length):lfB p=true:=by
 unfold lfB;simp only[am,bg,bz];omega
def p4 (p:PW):Bool:=(wmA p).1==0
theorem lE:∀l:List (Int×Option Nat),(∀x∈l,x.1≠0)->(sB l).1=0->∀x∈l,x.2=none
 |[],_,_=>fun _ h=>by cases h
 |(e,some k)::r,h,h0=>absurd h0 (h _ (cD ..))
 |(e,none)::r,h,h0=>fun x a=>by
  rcases bK.1 a with rfl|a
  ·rfl
  ·exact lE r (fun y b=>h y (List.mem_cons_of_mem _ b)) h0 x a
theorem jo {α:Type} {bad:Nat->α->Bool} {l:List α} (h:lk bad l=none):∀k (hk:k<l.length),bad k l[k]=false:=fun k hk=>by
 unfold lk at h;rw[List.find?_eq_none] at h;have:=h k (List.mem_range.2 hk);rw[ac hk] at this;simpa using this
structure Snd (p:PW):Prop where
 lf:LF p
 tm:ek 0 1000000 p.time=true
 b0:∀k (hk:k<p.IL.length),DZ p k p.IL[k]=false
 b1:∀k (hk:k<p.kinds.length),D3 p k p.kinds[k]=false
 b2:∀k (hk:k<p.IQ.length),D6 p k p.IQ[k]=false
 b3:∀k (hk:k<p.IH.length),DN p k p.IH[k]=false
 b4:∀k (hk:k<p.kinds.length),D9 p k p.kinds[k]=false
 b5:∀k (hk:k<p.II.length),DO p k p.II[k]=false
 b6:∀k (hk:k<p.lines.length),Eb p k p.lines[k]=false
 b7:∀k (hk:k<p.IJ.length),Ec p k p.IJ[k]=false
 b8:∀k (hk:k<p.ready.length),Ed p k p.ready[k]=false
 b9:∀k (hk:k<p.IL.length),Gb p k p.IL[k]=false
 Ki:∀k (hk:k<p.IK.length),y9 p k p.IK[k]=false
theorem kM {p:PW} (h:p4 p=true):Snd p:=by
 unfold p4 wmA at h
 cases hl:(lfB p&&ek 0 1000000 p.time) with
 |false=>rw[hl] at h;cases h
 |true=>
  rw[hl,ag rfl,pA] at h;have a:=hl;rw[am] at a;have b:=eq_of_beq h;have g:=lE _ oS b;exact⟨xv a.1,a.2,jo (g (1,lk (DZ p) p.IL) oS),jo (g (3,lk (D3 p) p.kinds) oS),jo (g (2,lk (D6 p) p.IQ) oS),jo (g (8,lk (DN p) p.IH) oS),jo (g (8,lk (D9 p) p.kinds) oS),jo (g (8,lk (DO p) p.II) oS),jo (g (8,lk (Eb p) p.lines) oS),jo (g (8,lk (Ec p) p.IJ) oS),jo (g (8,lk (Ed p) p.ready) oS),jo (g (9,lk (Gb p) p.IL) oS),jo (g (9,lk (y9 p) p.IK) oS)⟩
def eV (e:Int):Value:=if e=0 then .nilIface else .iface 45 (.int .i64 e)
theorem Ex:eV 0=.nilIface:=rfl
theorem Gf {e:Int} (h:¬e=0):eV e=.iface 45 (.int .i64 e):=ae h
