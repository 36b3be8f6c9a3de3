/- Uab -/
import Derived.Test.YtnccmdndkmmhcaaGreatDoorChecked
import Derived.Deep.MidRow
import Derived.Deep.RegionHeld3
import Derived.ChangeKeysEq
import Derived.Laws.StructEq
import Derived.Deep.DeepCutAuto
import Derived.ProofKit
import Derived.OpenShut
import Derived.Deep.Slices
import Derived.Carry
import Derived.Lib.SmallJoins
import Derived.Deep.RegionLaw
import Derived.Laws.MakeOwn
import Derived.Lib.SliceRun
import Derived.Deep.RegionWith
import Derived.Test.YtnccmdndkmmhcaaGreatDoorUaa
set_option maxRecDepth 100000
set_option maxHeartbeats 16000000
namespace Go.Proofs.YtnccmdndkmmhcaaGreatDoor
namespace Mem
open Go.RowKit
theorem hY (w:World) (cs:List Value) (t:TypeId) (n:Nat) (a:n=w.heap.size):(w.alloc (.cells cs.toArray t)).rangeAt n 0 cs:=fun j v hv=>by
 rw[eF _ _ _ _ a];simpa using hv
theorem nr (w:World) (a:Array Value) (t:TypeId) (n k:Nat) (b:n=w.heap.size) (hk:k<=a.size):(w.alloc (.cells a t)).there n 0 k:=fun j c=>by
 constructor
 ·rw[eF _ _ _ _ b];simp;omega
 ·subst b;simp
theorem _root_.Go.Proofs.YtnccmdndkmmhcaaGreatDoor.aP:type_of% @nr:= @nr
theorem m5 {w w':World} {b:Nat} {cs:List Value} (h:w.rangeAt b 0 cs) (a:Below w.heap.size w w'):w'.rangeAt b 0 cs:=fun j v hv=>by
 have:=h j v hv;exact (a.cell (aj _ _ this)).trans this
theorem _root_.Go.Proofs.YtnccmdndkmmhcaaGreatDoor.bf:type_of% @m5:= @m5
theorem uv {T:Nat->Prop} {w w':World} {b:Nat} {cs:List Value} (h:w.rangeAt b 0 cs) (a:Kp T w w') (c:¬T b):w'.rangeAt b 0 cs:=fun j v hv=>by
 have:=h j v hv;exact (a.cell (aj _ _ this) c).trans this
theorem _root_.Go.Proofs.YtnccmdndkmmhcaaGreatDoor.eM:type_of% @uv:= @uv
theorem uI {T:Nat->Prop} {w w':World} {b n:Nat} (h:w.there b 0 n) (c:Kp T w w') (d:¬T b):w'.there b 0 n:=fun j f=>by
 obtain⟨a,e⟩:=h j f;obtain⟨u,g⟩:=Option.isSome_iff_exists.1 a;have hl:=aj _ _ g;exact⟨by rw[c.cell hl d];exact a,by rw[c.frozen hl d];exact e⟩
theorem _root_.Go.Proofs.YtnccmdndkmmhcaaGreatDoor.eg:type_of% @uI:= @uI
theorem m6 {w:World} {b k:Nat} {cs:List Value} (h:w.rangeAt b 0 cs) (hk:k<cs.length) (v:Value):(w.setCell ⟨b,k,none⟩ v).rangeAt b 0 (cs.set k v):=fun j u a=>by
 rw[aC];by_cases e:k=j
 ·subst e;have:=h k _ (ac hk);rw[aC] at this;rw[du w _ _ this];rw[cQ hk] at a;exact a
 ·rw[aO w _ _ _ (by intro h;cases h;omega)];rw[cR e] at a;have:=h j u a;rw[aC] at this;exact this
theorem rp {w:World} {b B k:Nat} {cs:List Value} (h:w.rangeAt b 0 cs) (c:B≠b) (v:Value):(w.setCell ⟨B,k,none⟩ v).rangeAt b 0 cs:=fun j u a=>by
 rw[aO w _ _ _ (by intro h;cases h;omega)];exact h j u a
theorem ib {w:World} {b n:Nat} (h:w.there b 0 n) (a:Addr) (v:Value):(w.setCell a v).there b 0 n:=fun j g=>by
 obtain⟨d,f⟩:=h j g;obtain⟨u,c⟩:=Option.isSome_iff_exists.1 d;refine⟨?_,by rw[World.frozen?_setCell];exact f⟩;by_cases e:a=⟨b,0+j,none⟩
 ·subst e;rw[du _ _ _ c];rfl
 ·rw[aO _ _ _ _ e,c];rfl
theorem jK {w:World} {b k:Nat} {cs:List Value} {v:Value} (h:w.rangeAt b 0 cs) (hk:cs[k]? =some v):w.cell? ⟨b,k,none⟩=some v:=by
 have:=h k v hk
 rwa [aC] at this
theorem _root_.Go.Proofs.YtnccmdndkmmhcaaGreatDoor.ai:type_of% @jK:= @jK
theorem Kp.setCells {T:Nat->Prop} {w:World} {b:Nat} (a:T b∨w.heap.size<=b):∀(c:List Value) (o:Nat) (w':World),Kp T w w'->Kp T w (w'.setCells b o c)
 |[],_,_,h=>h
 |v::r,o,w',h=>by
  rw[World.setCells];exact Kp.setCells a r (o+1) _ (h.setCell a v)
theorem _root_.Go.Proofs.YtnccmdndkmmhcaaGreatDoor.aM:type_of% @Kp.setCells:= @Kp.setCells
theorem fu (b:Nat):∀(a:List Value) (o:Nat) (w:World),(w.setCells b o a).heap.size=w.heap.size
 |[],_,_=>rfl
 |v::r,o,w=>by
  rw[World.setCells,fu b r (o+1) _];simp[World.setCell]
theorem gW {w:World} {b C o:Nat} (e:C≠b) (c:List Value) (a:Nat):(w.setCells b a c).cell? ⟨C,o,none⟩=w.cell? ⟨C,o,none⟩:=by
 rw[cH b c a w ⟨C,o,none⟩ (fun d _=>absurd d e)]
theorem gV:(Tryz.prog.info? 37).map (·.size)=some 20:=oK
theorem il {ops:Array Oper} {rest:List Oper} {op:Oper} {a:Act} {w:World} {Q:Exit->Act->World->Prop} (d:op.guard=none) (x:Operand) (e:op.op=.load 37 x)
  (b:Nat) (f:a.eval x=.pointer (some ⟨b,0,none⟩)) (cs:List Value) (hl:cs.length=20) (c:w.rangeAt b 0 cs)
  (h:wpList Tryz.prog ops Q rest (a.put op.dst (.agg cs.toArray)) w):wpList Tryz.prog ops Q (op::rest) a w:=
 wpList_load_mid d 37 x e b 0 f cs _ c Tryz.underlying37 rfl (by rw[gV,hl]) h
theorem gZ {ops:Array Oper} {rest:List Oper} {op:Oper} {a:Act} {w:World} {Q:Exit->Act->World->Prop} (d:op.guard=none) (x y:Operand) (e:op.op=.store 37 x y)
  (b:Nat) (g:a.eval x=.pointer (some ⟨b,0,none⟩)) (cs:List Value) (i:a.eval y=.agg cs.toArray) (hl:cs.length=20) (c:∀v∈cs,v.oneCell'=true) (f:w.there b 0 20)
  (h:wpList Tryz.prog ops Q rest (a.put op.dst undef) (w.setCells b 0 cs)):wpList Tryz.prog ops Q (op::rest) a w:=
 wpList_store_mid d 37 x y e b 0 cs.toArray g i (by simpa [hl] using f) (by rw[gV];simp[hl]) (all_oneCell_toArray c) (by simpa using h)
theorem fK (w:World) (b:Nat) (cs:List Value) (a:w.rangeAt b 0 cs) (hl:cs.length=20):(loadVar 37 ⟨b,0,none⟩).run Tryz.prog w=.ok (.agg cs.toArray) w:=
 run_loadVar_mid w b 0 37 cs _ a Tryz.underlying37 rfl (by rw[gV,hl])
theorem oB {c:Func} {p u v:Tmp} {g:TypeId} (h:c.results=#[.cell p g,.tmp u,.tmp v]) {a:Array Value} {P:Program} {w:World} {b:Nat} {x y z:Value} (i:a.getD p undef=.pointer (some ⟨b,0,none⟩)) (hl:(loadVar g ⟨b,0,none⟩).run P w=.ok x w) (j:a.getD u undef=y) (hv:a.getD v undef=z):
  (results c a).run P w=.ok (.tuple #[x,y,z]) w:=by
 simp only[results,h];simp[Sem.run_bind,Result.andThen,asAddr];have d:=i;have e:=j;have f:=hv;simp at d e f;rw[d,e,f];simp[hl]
theorem _root_.Go.Proofs.YtnccmdndkmmhcaaGreatDoor.dB:type_of% @oB:= @oB
theorem gh {a:Func} {p:Tmp} {e:TypeId} (h:a.results=#[.cell p e]) {d:Array Value} {P:Program} {w:World} {b:Nat} {x:Value} (f:d.getD p undef=.pointer (some ⟨b,0,none⟩)) (hl:(loadVar e ⟨b,0,none⟩).run P w=.ok x w):
  (results a d).run P w=.ok x w:=by
 simp only[results,h];simp[Sem.run_bind,Result.andThen,asAddr];have c:=f;simp at c;rw[c];simp[hl]
end Mem
namespace Wd
open Go.RowKit Mem Bw Nums Mmu
def cf (n:Nat) (f:Nat->Int):List Value:=(List.range n).map fun k=>.int .i64 (f k)
theorem gT (n:Nat) (f:Nat->Int):(cf n f).length=n:=by simp[cf]
theorem _root_.Go.Proofs.YtnccmdndkmmhcaaGreatDoor.ay:type_of% @gT:= @gT
theorem dk (n:Nat) (f:Nat->Int) (k:Nat) (h:k<n):(cf n f)[k]? =some (.int .i64 (f k)):=by simp[cf,h]
theorem tJ (n:Nat) (f:Nat->Int):∀v∈cf n f,v.oneCell'=true:=by
 intro v hv;obtain⟨k,_,rfl⟩:=List.mem_map.1 hv;rfl
theorem _root_.Go.Proofs.YtnccmdndkmmhcaaGreatDoor.bQ:type_of% @tJ:= @tJ
theorem lL {w w':World} {b o:Nat} {cs:List Value} (h:w.rangeAt b o cs) (a:Below w.heap.size w w'):w'.rangeAt b o cs:=fun j v hv=>by
 have:=h j v hv;exact (a.cell (aj _ _ this)).trans this
theorem _root_.Go.Proofs.YtnccmdndkmmhcaaGreatDoor.cS:type_of% @lL:= @lL
def ed (w:World) (v:Value) (zs:List Int):Prop:=∃q b off cap,v=.slice q zs.length cap∧(0<zs.length->q=some ⟨b,off,none⟩)∧fW w b off zs
theorem ed.below {w w':World} {v:Value} {zs:List Int} (h:ed w v zs) (e:Below w.heap.size w w'):ed w' v zs:=by
 obtain⟨q,b,off,cap,a,c,d⟩:=h;exact⟨q,b,off,cap,a,c,d.below e⟩
def gi (w:World) (v:Value) (ls:List (List Int)):Prop:=∃q b off cap,v=.slice q ls.length cap∧(0<ls.length->q=some ⟨b,off,none⟩)∧∀j (h:j<ls.length),∃x,w.cell? ⟨b,off+j,none⟩=some x∧ed w x ls[j]
theorem gi.below {w w':World} {v:Value} {ls:List (List Int)} (h:gi w v ls) (a:Below w.heap.size w w'):gi w' v ls:=by
 obtain⟨q,b,off,cap,d,e,f⟩:=h;refine⟨q,b,off,cap,d,e,fun j g=>?_⟩;obtain⟨x,c,hi⟩:=f j g;exact⟨x,(a.cell (aj _ _ c)).trans c,hi.below a⟩
def vP:Value->Prop
 | .slice _ n cap=>n<=cap
 |_=>True
def iE (w:World) (v:Value) (ls:List (List Ent)):Prop:=∃q b off cap,v=.slice q ls.length cap∧(0<ls.length->q=some ⟨b,off,none⟩)∧∀j (h:j<ls.length),∃x,w.cell? ⟨b,off+j,none⟩=some x∧jb w x ls[j]∧vP x
theorem iE.below {w w':World} {v:Value} {ls:List (List Ent)} (h:iE w v ls) (a:Below w.heap.size w w'):iE w' v ls:=by
 obtain⟨q,b,off,cap,d,e,f⟩:=h;refine⟨q,b,off,cap,d,e,fun j g=>?_⟩;obtain⟨x,c,hi⟩:=f j g;exact⟨x,(a.cell (aj _ _ c)).trans c,hi.1.below a,hi.2⟩
def RowsIn (n:Nat) (w:World) (v:Value) (fs:List (Nat->Int)):Prop:=∃q b off cap,v=.slice q fs.length cap∧(0<fs.length->q=some ⟨b,off,none⟩)∧∀j (h:j<fs.length),w.rangeAt b (off+j*n) (cf n fs[j])
theorem RowsIn.below {n:Nat} {w w':World} {v:Value} {fs:List (Nat->Int)} (h:RowsIn n w v fs) (e:Below w.heap.size w w'):RowsIn n w' v fs:=by
 obtain⟨q,b,off,cap,a,c,d⟩:=h;exact⟨q,b,off,cap,a,c,fun j f=>cS (d j f) e⟩
structure PW where
 IL:List Int
 kinds:List Int
 IH:List (Nat->Int)
 II:List (Nat->Int)
 lines:List (List Int)
 bits:List Int
 IJ:List Int
 ready:List (List Int)
 IK:List (List Ent)
 IQ:List Int
 time:Int
structure PW.Fits (p:PW):Prop where
 IL:p.IL.length<=1000
 kinds:p.kinds.length<=1000
 IH:p.IH.length<=1000
 II:p.II.length<=1000
 lines:p.lines.length<=1000
 line:∀l∈p.lines,l.length<=1000
 bits:p.bits.length<=1000
 IJ:p.IJ.length<=1000
 ready:p.ready.length<=1000
 next:∀l∈p.ready,l.length<=1000
 IK:p.IK.length<=1000
 IQ:p.IQ.length<=1000
structure eu (w:World) (v:Nat->Value) (p:PW):Prop where
 IL:ed w (v 0) p.IL
 kinds:ed w (v 1) p.kinds
 IH:RowsIn 7 w (v 2) p.IH
 II:RowsIn 20 w (v 3) p.II
 lines:gi w (v 4) p.lines
 bits:ed w (v 5) p.bits
 IJ:ed w (v 6) p.IJ
 ready:gi w (v 7) p.ready
 IK:iE w (v 8) p.IK
 IQ:ed w (v 9) p.IQ
 time:v 10=.int .i64 p.time
theorem eu.below {w w':World} {v:Nat->Value} {p:PW} (h:eu w v p) (a:Below w.heap.size w w'):eu w' v p:=
 ⟨h.IL.below a,h.kinds.below a,h.IH.below a,h.II.below a,h.lines.below a,h.bits.below a,h.IJ.below a,h.ready.below a,h.IK.below a,h.IQ.below a,h.time⟩
end Wd
namespace Mem
open Go.RowKit
theorem pN (xs:Array Value) (o:Nat) (a:Int) (w:World) (h:xs[o]? =some (.int .i64 a)):(part 3 xs o).run Tryz.prog w=.ok (.int .i64 a) w:=by
 simp[part,isAgg,underlying,Tryz.underlying3,h]
theorem Cs:∃i,Tryz.prog.info? 3=some i:=by
 cases h:Tryz.prog.info? 3 with
 |some i=>exact⟨i,rfl⟩
 |none=>
  have:(Tryz.prog.info? 3).isSome=true:=oK;rw[h] at this;cases this
theorem zI:Tryz.prog.cellsOf 3=1:=oK
end Mem
namespace Wd
open Go.RowKit Mem Bw Nums Mmu
theorem C3 (g:Nat->Int) (o:Nat) (h:o<20) (w:World):(part 3 (cf 20 g).toArray o).run Tryz.prog w=.ok (.int .i64 (g o)) w:=
 pN _ o _ w (by rw[aS];exact dk 20 g o h)
theorem yc (g:Nat->Int) (w:World):(part 35 (cf 20 g).toArray 0).run Tryz.prog w=.ok (.agg #[.int .i64 (g 0),.int .i64 (g 1),.int .i64 (g 2),.int .i64 (g 3),.int .i64 (g 4),.int .i64 (g 5),.int .i64 (g 6),.int .i64 (g 7)]) w:=by
 have hi:(Tryz.prog.info? 35).map (·.size)=some 8:=oK
 cases hq:Tryz.prog.info? 35 with
 |none=>rw[hq] at hi;cases hi
 |some i=>
  have a:i.size=8:=by simpa [hq] using hi
  simp[part,isAgg,underlying,Tryz.underlying35,sizeOf,typeInfo,hq,a];rfl
theorem Dh (g:Nat->Int) (d:Nat) (w:World):(Op.equalIn (d+2) 35 (.agg #[.int .i64 (g 0),.int .i64 (g 1),.int .i64 (g 2),.int .i64 (g 3),.int .i64 (g 4),.int .i64 (g 5),.int .i64 (g 6),.int .i64 (g 7)]) (.agg #[.int .i64 (g 0),.int .i64 (g 1),.int .i64 (g 2),.int .i64 (g 3),.int .i64 (g 4),.int .i64 (g 5),.int .i64 (g 6),.int .i64 (g 7)])).run Tryz.prog w=.ok true w:=by
 obtain⟨i,hi⟩:=Cs;rw[run_equalIn_array w (d+1) _ _ Tryz.underlying35 hi,zI];have b:List.range 8=[0,1,2,3,4,5,6,7]:=rfl;rw[b];have a:∀(k:Nat) (h:k<8),(part 3 #[.int .i64 (g 0),.int .i64 (g 1),.int .i64 (g 2),.int .i64 (g 3),.int .i64 (g 4),.int .i64 (g 5),.int .i64 (g 6),.int .i64 (g 7)] k).run Tryz.prog w=.ok (.int .i64 (g k)) w:=fun k h=>pN _ k _ w (by
  have:k=0∨k=1∨k=2∨k=3∨k=4∨k=5∨k=6∨k=7:=oA;rcases this with rfl|rfl|rfl|rfl|rfl|rfl|rfl|rfl<;>rfl)
 simp[Op.eqItems,Sem.run_bind,a,run_equalIn_int w d 3 .i64 .i64 _ _ Tryz.underlying3]
theorem Dv (g:Nat->Int) (w:World):(Op.equalIn 10000 37 (.agg (cf 20 g).toArray) (.agg (cf 20 g).toArray)).run Tryz.prog w=.ok true w:=by
 have b:Tryz.prog.underlying 37=some (.struct (Tryz.prog.fieldsOf 37)):=oK;have c:Tryz.prog.stoodInHeld 37=false:=oK;rw[show (10000:Nat)=9999+1 from rfl,run_equalIn_struct w 9999 _ _ _ b c];simp only[Program.fieldsOf,Tryz.underlying37];have hi:∀a:Int,(Op.equalIn 9999 3 (.int .i64 a) (.int .i64 a)).run Tryz.prog w=.ok true w:=fun a=>by
  rw[run_equalIn_int w 9998 3 .i64 .i64 _ _ Tryz.underlying3];simp
 have d:=Dh g 9997 w;simp[Op.eqFields,Sem.run_bind,yc,d,C3,hi]
theorem Ay (g:Nat->Int) (w:World):(binOp .neq 37 (.agg (cf 20 g).toArray) (.agg (cf 20 g).toArray)).run Tryz.prog w=.ok (.bool false) w:=by
 rw[run_neq_struct,Dv];rfl
theorem wH {ρ:Operand->Value} {o:Oper} (x y:Operand) (e:TypeId) (b:o.op=.binOp .neq 37 x y e) (g:Nat->Int) (c:ρ x=.agg (cf 20 g).toArray) (d:ρ y=.agg (cf 20 g).toArray) (W:World):(execOp ρ o).run Tryz.prog W=.ok (.value (.bool false)) W:=by
 have a:Tryz.prog.eqGuardType Tryz.prog.depth 37=false:=oK;unfold execOp;simp only[b,c,d,dZ,run_eqGuard_agg (P:=Tryz.prog) W .neq 37 x y (cf 20 g).toArray (cf 20 g).toArray a,Ay g W,Result.andThen_ok,Sem.run_pure]
theorem sT (n:Nat) (g:Nat->Int) (o:Nat) (h:o<n) (w:World):(part 3 (cf n g).toArray o).run Tryz.prog w=.ok (.int .i64 (g o)) w:=
 pN _ o _ w (by rw[aS];exact dk n g o h)
abbrev de (v:Nat->Value):Array Value:=#[v 0,v 1,v 2,v 3,v 4,v 5,v 6,v 7,v 8,v 9,v 10]
theorem GV:(Tryz.prog.info? 34).map (·.size)=some 7:=oK
theorem RowsIn.slice {n:Nat} {w:World} {v:Value} {fs:List (Nat->Int)} (h:RowsIn n w v fs):∃q cap,v=.slice q fs.length cap:=by
 obtain⟨q,b,off,cap,a,_⟩:=h;exact⟨q,cap,a⟩
theorem iE.slice {w:World} {v:Value} {ls:List (List Ent)} (h:iE w v ls):∃q cap,v=.slice q ls.length cap:=by
 obtain⟨q,b,off,cap,a,_⟩:=h;exact⟨q,cap,a⟩
theorem r11 {w:World} {b:Nat} {V:Nat->Value} (k:Nat) (h:w.rangeAt b 0 (de V).toList) (hk:(de V).toList[k]? =some (V k):=by rfl):w.cell? ⟨b,k,none⟩=some (V k):=ai h hk
end Wd
open Go.ChangeShapes Go.WideShapes
theorem zf {P:Program} {w:World} {r:Reach} {base:Nat} {u:TypeId} {k:IntKind} {v:Value} (a:P.underlying u=some (.int k)) (h:Cell.okWide P w r base u v):
  ∃n,v=.int k n∧k.has n:=by
 simp only[Cell.okWide,a] at h
 cases v<;>simp_all [Cell.ok]
theorem tA {P:Program} {w:World} {r:Reach} {base:Nat} {u:TypeId} {k:IntKind} {v:Value} (a:P.underlying u=some (.int k)) (h:Value.okWide P w r base u v):
  ∃n,v=.int k n∧k.has n:=by
 simp only[Value.okWide,a] at h;exact zf a h
theorem kZ {n:Int} (h:IntKind.i64.has n): -9223372036854775808<=n∧n<=9223372036854775807:=by
 obtain⟨a,b⟩:=h;simp[IntKind.min,IntKind.max,IntKind.signed,IntKind.bits] at a b;omega
open Go.ChangeShapes Go.WideShapes Go.RowKit Go.Deep
namespace Nums
open Mem
theorem nO (b o k:Nat):(⟨b,o,none⟩:Addr).add k=⟨b,o+k,none⟩:=by unfold Addr.add;split<;>simp_all
theorem Ej:Tryz.prog.cellsOf 3=1:=oK
end Nums
namespace Mmu
open Go.ChangeShapes Go.WideShapes Go.RowKit Go.Deep Go.Joins Mem Nums
section
variable {H : Type} {enc : TypeId × Value -> H} {P : Program} {w : World} {base : Nat} {spare : Nat -> Bool} {held : Bool}
end
end Mmu
namespace Wd
open Go.ChangeShapes Go.WideShapes Go.RowKit Go.Deep Go.Joins Mem Nums Mmu
section
variable {H : Type} {enc : TypeId × Value -> H} {w : World} {base : Nat} {spare : Nat -> Bool} {held : Bool} {fuel : Nat} {cs : List Value} {x : DataW H × List MemPlace}
end
section
variable {H : Type} {enc : TypeId × Value -> H} {w : World} {base : Nat} {spare : Nat -> Bool} {held : Bool} {fuel : Nat} {cs : List Value} {x : DataW H × List MemPlace}
end
end Wd
namespace Wd
open Go.RowKit Mem Bw Nums Mmu
theorem iz {w w':World} (h:Below w.heap.size w w') {b:Nat} (a:w.heap.size<=b):∀(c:List Value) (o:Nat),Below w.heap.size w (w'.setCells b o c)
 |[],_=>h
 |v::r,o=>by
  rw[World.setCells];exact iz (iq h a v) a r (o+1)
theorem _root_.Go.Proofs.YtnccmdndkmmhcaaGreatDoor.bT:type_of% @iz:= @iz
theorem gG {T E:TypeId} {z:Value} {sz bytes:Nat} (d:Tryz.prog.underlying T=some (.slice E)) (f:(Tryz.prog.info? E).map (fun i=>(i.zero,i.size,i.bytes))=some (some z,sz,bytes)) (g:sz<=100) (e:bytes<=1000) (n:Nat) (b:n<=1000) (w:World):
  (Instr.makeSlice T (.int .i64 n) (.int .i64 n)).run Tryz.prog w=.ok (.slice (some ⟨w.heap.size,0,none⟩) n n) (w.alloc (.cells (madeCells z.cells (n*sz)) E)):=by
 obtain⟨i0,hi,h,c,j⟩:=fj f;have k:n*i0.size<=1000*100:=by rw[c];exact Nat.mul_le_mul b g
 have l:i0.bytes*n<=1000*1000:=by rw[j];exact Nat.mul_le_mul e b
 have a:=run_makeSlice (P:=Tryz.prog) w T E i0 z d hi h .i64 .i64 n n oA (Int.le_refl _) (by simp only[ah];omega) (by
  have:((i0.bytes*n:Nat):Int)<=281474976710656:=oA
  rwa [Int.natCast_mul] at this) oA
 simp only[ah] at a;rw[c] at a;exact a
end Wd
namespace Mmu
open Go.RowKit Mem Bw Nums
theorem tE (b off j:Nat):(⟨b,off,none⟩:Addr).add j=⟨b,off+j,none⟩:=by
 unfold Addr.add;split<;>simp_all
theorem nY {w:World} {b off:Nat} {l:List Ent} (h:gx w b off l):∀(j:Nat) (u:Value),(fo l)[j]? =some u->w.cell? ((⟨b,off,none⟩:Addr).add j)=some u:=by
 intro j u a;have i:=(List.getElem?_eq_some_iff.1 a).1;rw[kU] at i;rw[tE];have hk:j/4<l.length:=oA;obtain⟨a0,a1,d,e⟩:=h _ hk;obtain⟨f,e1,e2,g⟩:=kx l _ hk;have c:j=j/4*4∨j=j/4*4+1∨j=j/4*4+2∨j=j/4*4+3:=oA;rcases c with c|c|c|c
 ·rw[c] at a ⊢;rw[<-a,f];exact a0
 ·rw[c] at a ⊢;rw[<-a,e1, <-a1];rfl
 ·rw[c] at a ⊢;rw[<-a,e2, <-d];rfl
 ·rw[c] at a ⊢;rw[<-a,g, <-e];rfl
theorem nR (l:List Ent):∀u∈fo l,u.oneCell'=true:=by
 intro u b;obtain⟨q,_,a⟩:=List.mem_flatMap.1 b;exact fO _ _ _ _ u a
theorem vZ (v:Value) (l:List Ent) (w:World) (hv:jb w v l):
  Calls Tryz.prog 249 #[v] w fun r w'=>∃u,r=.returned u∧w'.ownsRow w.heap.size 40 4 u l.length (fo l)∧Below w.heap.size w w':=by
 obtain⟨i0,hi,G,H,I⟩:=fj mN;have K:∀(w:World) (a:Option Addr) (n c g f:Nat),(binOp .eql 38 (.slice a n c) (.slice none g f)).run Tryz.prog w=.ok (.bool a.isNone) w:=fun w a n c g f=>Lib.run_eql_slice_nil w _ _ a n c g f Tryz.underlying38;obtain⟨q,b,off,cap,rfl,E,F,hl⟩:=hv;have i:=hid E;have B:=hid F
 cases q with
 |none=>
  have d:l=[]:=by
   cases l with
   |nil=>rfl
   |cons x l=>have:=i.out oS;cases this
  subst d;go_enter Tryz.func249,Tryz.ntmps249
  go_wp2_with fail
  go_ret
  exact⟨_,rfl,ct _ _ _ _,af _ _⟩
 |some ad=>
  have A:=hid (show ∀(W:World),Below w.heap.size w W->∀(j:Nat) (u:Value),(fo l)[j]? =some u->W.cell? (ad.add j)=some u from fun W D=>by
   by_cases d:0<l.length
   ·have:=i.out d
    cases this
    exact nY (B.below D)
   ·intro j u p;have:l=[]:=by
     cases l with
     |nil=>rfl
     |cons x l=>simp at d
    rw[this] at p;simp[fo] at p)
  have z:=hid (kU l);have y:=hid (nR l);have J:l.length<=maxLen:=by unfold maxLen;omega
  have h:=hid (bal (af w.heap.size w) (.cells #[] 40));have m:=hid (dy (base:=w.heap.size) (e:=40) (size:=4) w #[] 0 (aq _) (bP _) oS);generalize fo l=cs at*;go_enter Tryz.func249,Tryz.ntmps249
  go_wp2_with (at_builtin;refine aY _ rfl _ _ 38 rfl w.heap.size 40 i0 (.agg #[.int .i64 0,.int .i64 0,.int .i64 0,.bool false]) 4 32 Tryz.underlying38 hi G H I rfl oD _ _ _ rfl m ad l.length cap cs rfl z (A.out _ h) y oA oA oS ?_;intro L M s o _;have t:=hid (h.grown o oS (fun k hk=>(m.lt k hk).1));have C:=hid s;clear s o)
  go_ret
  refine⟨_,rfl,?_,t.out⟩;have:=C.out;rw[aC,eC] at this;exact this
end Mmu
namespace IP
def hA (o:Int):Bool:= !decide (o=0∨o=12∨o=14)
def hB (o:Int):Bool:= !decide (o=0∨o=1∨o=13∨o=12∨o=14)
def hC (o:Int):Bool:=decide (o=1∨o=13∨o=10∨o=11∨o=12∨o=14)
def tQ (v:Int) (has:Bool) (lo hi:Int):Bool:=if has=true then decide (lo<=v∧v<=hi) else decide (v=0)
def may (o a b i:Int):Int:=
 if o<0∨14<o then 1
 else if tQ a (hA o) 0 7=true∧tQ b (hB o) 0 7=true∧tQ i (hC o) (-32768) 32767=true then 0 else 2
def word (x y:Int):Prop:=0<=x∧x<=65535∧0<=y∧y<=65535
end IP
namespace Isa
open Go.RowKit Mem
theorem fy (v a:Int) (w:World):
  Calls Tryz.prog 62 #[.int .i64 v,.int .i64 a] w fun e w'=>e=.returned (.bool (decide (v<0∨a<v)))∧w=w':=by
 go_enter Tryz.func62,Tryz.ntmps62
 go_wp2
 all_goals
  go_ret
  exact⟨gY (by first|rfl|simp|(rw[cY];simp;omega)),rfl⟩
end Isa
namespace Wd
open Go.RowKit Mem Bw Nums Mmu
def bl (k:Nat):Int:=[0,0,0,0,0,0,0,0,0,0,0, -1, -1, -1, -1,0,0, -1,0,0].getD k 0
theorem qh (w:World):Calls Tryz.prog 31 #[] w fun e w'=>e=.returned (.agg (cf 20 bl).toArray)∧Below w.heap.size w w':=by
 have a:=hid (aP w zT 37 w.heap.size 20 rfl oD);go_enter Tryz.func31,Tryz.ntmps31
 go_wp2_with (first
  |((with_reducible refine gst 37 ?_);refine gZ rfl _ _ rfl _ rfl (cf 20 bl) rfl (ay _ _) (bQ _ _) a ?_;have E:=hid (World.rangeAt_setCells_same _ w.heap.size 0 (cf 20 bl) (by rw[ay];exact a));have b:=hid (bT (bal (af w.heap.size w) (.cells zT 37)) (aq _) (cf 20 bl) 0)))
 refine ar (v:=.agg (cf 20 bl).toArray) (gh rfl rfl (fK _ _ (cf 20 bl) E (ay _ _))) rfl ⟨rfl,b.out⟩
theorem mq (w:World):Calls Tryz.prog 139 #[] w fun e w'=>e=.returned (.agg (cf 20 bl).toArray)∧Below w.heap.size w w':=by
 have a:=hid (aP w zT 37 w.heap.size 20 rfl oD);go_enter Tryz.func139,Tryz.ntmps139
 go_wp2_with (first
  |((with_reducible refine gst 37 ?_);refine gZ rfl _ _ rfl _ rfl (cf 20 bl) rfl (ay _ _) (bQ _ _) a ?_;have E:=hid (World.rangeAt_setCells_same _ w.heap.size 0 (cf 20 bl) (by rw[ay];exact a));have b:=hid (bT (bal (af w.heap.size w) (.cells zT 37)) (aq _) (cf 20 bl) 0)))
 refine ar (v:=.agg (cf 20 bl).toArray) (gh rfl rfl (fK _ _ (cf 20 bl) E (ay _ _))) rfl ⟨rfl,b.out⟩
theorem oJ (v a b:Int) (w:World):
  Calls Tryz.prog 45 #[.int .i64 v,.int .i64 a,.int .i64 b] w fun e w'=>e=.returned (.bool (decide (a<=v∧v<=b)))∧w=w':=by
 go_enter Tryz.func45,Tryz.ntmps45
 go_wp2
 all_goals
  go_ret
  exact⟨gY (by first|rfl|(simp;done)|(rw[cY];simp;omega)),rfl⟩
theorem _root_.Go.Proofs.YtnccmdndkmmhcaaGreatDoor.ey:type_of% @oJ:= @oJ
def nd (z:Int):Bool:= !decide (0<=z∧z<=3)
theorem xO (n v:Int) (w:World):
  Calls Tryz.prog 49 #[.int .i64 n,.int .i64 v] w fun e w'=>e=.returned (.bool (nd v))∧w=w':=by
 go_enter Tryz.func49,Tryz.ntmps49
 go_wp2_with fail
 refine (ey v 0 3 w).mono ?_;rintro e w1 ⟨rfl,rfl⟩;have a:=hid (show nd v= !decide (0<=v∧v<=3) from rfl);generalize decide (0<=v∧v<=3)=b at a ⊢;go_wp2_with fail
 go_ret
 exact⟨by rw[a.out];rfl,rfl⟩
theorem oZ (f c d:Int) (w:World):
  Calls Tryz.prog 135 #[.int .i64 f,.int .i64 c,.int .i64 d] w fun e w'=>e=.returned (.bool (decide ((1<=f∧f<=24)∧(1<=c∧c<=4)∧(1<=d∧d<=8))))∧w=w':=by
 by_cases a:1<=f∧f<=24
 ·by_cases i:1<=c∧c<=4
  ·go_enter Tryz.func135,Tryz.ntmps135
   go_wp2_with fail
   refine (ey f 1 24 w).mono ?_;rintro e w1 ⟨rfl,rfl⟩;rw[az a];go_wp2_with fail
   refine (ey c 1 4 w).mono ?_;rintro e w1 ⟨rfl,rfl⟩;rw[az i];go_wp2_with fail
   refine (ey d 1 8 w).mono ?_;rintro e w1 ⟨rfl,rfl⟩;go_wp2_with fail
   go_ret
   exact⟨gY (by rw[cY];simp;omega),rfl⟩
  ·have g:=hid i;go_enter Tryz.func135,Tryz.ntmps135
   go_wp2_with fail
   refine (ey f 1 24 w).mono ?_;rintro e w1 ⟨rfl,rfl⟩;rw[az a];go_wp2_with fail
   refine (ey c 1 4 w).mono ?_;rintro e w1 ⟨rfl,rfl⟩;rw[aw g];go_wp2_with fail
   go_ret
   exact⟨gY (aw (fun h=>g.out h.2.1)).symm,rfl⟩
 ·have b:=hid a;go_enter Tryz.func135,Tryz.ntmps135
  go_wp2_with fail
  refine (ey f 1 24 w).mono ?_;rintro e w1 ⟨rfl,rfl⟩;rw[aw b];go_wp2_with fail
  go_ret
  exact⟨gY (aw (fun h=>b.out h.1)).symm,rfl⟩
