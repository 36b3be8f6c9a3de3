/- Qab -/
import Derived.Test.YtaejnmmpddbbjaaGreatDoorChecked
import Derived.Deep.MidRow
import Derived.Deep.RegionHeld3
import Derived.ChangeKeysEq
import Derived.Laws.StructEq
import Derived.Deep.DeepCutAuto
import Derived.ProofKit
import Derived.OpenShut
import Derived.Deep.Slices
import Derived.Carry
import Derived.Lib.SmallJoins
import Derived.Deep.RegionLaw
import Derived.Laws.MakeOwn
import Derived.Lib.SliceRun
import Derived.Deep.RegionWith
import Derived.Test.YtaejnmmpddbbjaaGreatDoorQaa
namespace Go.Proofs.YtaejnmmpddbbjaaGreatDoor.Mem
open Go.RowKit
theorem range_new (w:World) (cs:List Value) (t:TypeId) (n:Nat) (a:n=w.heap.size):(w.alloc (.cells cs.toArray t)).rangeAt n 0 cs:=fun j v b=>by
 rw[dh _ _ _ _ a];simpa using b
theorem there_new (w:World) (a:Array Value) (t:TypeId) (n k:Nat) (b:n=w.heap.size) (hk:k≤a.size):(w.alloc (.cells a t)).there n 0 k:=fun j c=>by
 constructor
 ·rw[dh _ _ _ _ b];simp;omega
 ·subst b;simp
theorem _root_.Go.Proofs.YtaejnmmpddbbjaaGreatDoor.aM:type_of% @there_new:= @there_new
theorem range_below {w w':World} {b:Nat} {cs:List Value} (h:w.rangeAt b 0 cs) (a:Below w.heap.size w w'):w'.rangeAt b 0 cs:=fun j v c=>by
 have:=h j v c;exact (a.cell (al _ _ this)).trans this
theorem _root_.Go.Proofs.YtaejnmmpddbbjaaGreatDoor.d9:type_of% @range_below:= @range_below
theorem range_kp {T:Nat→Prop} {w w':World} {b:Nat} {cs:List Value} (h:w.rangeAt b 0 cs) (a:Kp T w w') (c:¬T b):w'.rangeAt b 0 cs:=fun j v d=>by
 have:=h j v d;exact (a.cell (al _ _ this) c).trans this
theorem _root_.Go.Proofs.YtaejnmmpddbbjaaGreatDoor.ef:type_of% @range_kp:= @range_kp
theorem there_kp {T:Nat→Prop} {w w':World} {b n:Nat} (h:w.there b 0 n) (c:Kp T w w') (d:¬T b):w'.there b 0 n:=fun j f=>by
 obtain⟨a,e⟩:=h j f;obtain⟨u,g⟩:=Option.isSome_iff_exists.1 a;have hl:=al _ _ g;exact⟨by rw[c.cell hl d];exact a,by rw[c.frozen hl d];exact e⟩
theorem _root_.Go.Proofs.YtaejnmmpddbbjaaGreatDoor.dN:type_of% @there_kp:= @there_kp
theorem range_set {w:World} {b k:Nat} {cs:List Value} (h:w.rangeAt b 0 cs) (hk:k<cs.length) (v:Value):(w.setCell ⟨b,k,none⟩ v).rangeAt b 0 (cs.set k v):=fun j u a=>by
 rw[aC];by_cases e:k=j
 ·subst e;have:=h k _ (ac hk);rw[aC] at this;rw[cZ w _ _ this];rw[cQ hk] at a;exact a
 ·rw[aI w _ _ _ (by intro h;cases h;omega)];rw[cM e] at a;have:=h j u a;rw[aC] at this;exact this
theorem range_far {w:World} {b B k:Nat} {cs:List Value} (h:w.rangeAt b 0 cs) (c:B≠b) (v:Value):(w.setCell ⟨B,k,none⟩ v).rangeAt b 0 cs:=fun j u a=>by
 rw[aI w _ _ _ (by intro h;cases h;omega)];exact h j u a
theorem there_set {w:World} {b n:Nat} (h:w.there b 0 n) (a:Addr) (v:Value):(w.setCell a v).there b 0 n:=fun j g=>by
 obtain⟨d,f⟩:=h j g;obtain⟨u,c⟩:=Option.isSome_iff_exists.1 d;refine⟨?_,by rw[World.frozen?_setCell];exact f⟩;by_cases e:a=⟨b,0+j,none⟩
 ·subst e;rw[cZ _ _ _ c];rfl
 ·rw[aI _ _ _ _ e,c];rfl
theorem range_cell {w:World} {b k:Nat} {cs:List Value} {v:Value} (h:w.rangeAt b 0 cs) (hk:cs[k]? =some v):w.cell? ⟨b,k,none⟩=some v:=by
 have:=h k v hk
 rwa [aC] at this
theorem _root_.Go.Proofs.YtaejnmmpddbbjaaGreatDoor.af:type_of% @range_cell:= @range_cell
theorem Kp.setCells {T:Nat→Prop} {w:World} {b:Nat} (a:T b∨w.heap.size≤b):∀(c:List Value) (o:Nat) (w':World),Kp T w w'→Kp T w (w'.setCells b o c)
 |[],_,_,h=>h
 |v::r,o,w',h=>by
  rw[World.setCells];exact Kp.setCells a r (o+1) _ (h.setCell a v)
theorem _root_.Go.Proofs.YtaejnmmpddbbjaaGreatDoor.aG:type_of% @Kp.setCells:= @Kp.setCells
theorem setCells_size (b:Nat):∀(a:List Value) (o:Nat) (w:World),(w.setCells b o a).heap.size=w.heap.size
 |[],_,_=>rfl
 |v::r,o,w=>by
  rw[World.setCells,setCells_size b r (o+1) _];simp[World.setCell]
theorem cell_setCells {w:World} {b C o:Nat} (e:C≠b) (c:List Value) (a:Nat):(w.setCells b a c).cell? ⟨C,o,none⟩=w.cell? ⟨C,o,none⟩:=by
 rw[World.cell?_setCells_out b c a w ⟨C,o,none⟩ (fun d _=>absurd d e)]
theorem info20:(Tryz.prog.info? 45).map (·.size)=some 20:=by kernel_rfl
theorem wp_ld {ops:Array Oper} {rest:List Oper} {op:Oper} {a:Act} {w:World} {Q:Exit→Act→World→Prop} (d:op.guard=none) (x:Operand) (e:op.op=.load 45 x)
  (b:Nat) (f:a.eval x=.pointer (some ⟨b,0,none⟩)) (cs:List Value) (hl:cs.length=20) (c:w.rangeAt b 0 cs)
  (h:wpList Tryz.prog ops Q rest (a.put op.dst (.agg cs.toArray)) w):wpList Tryz.prog ops Q (op::rest) a w:=
 wpList_load_mid d 45 x e b 0 f cs _ c Tryz.underlying45 rfl (by rw[info20,hl]) h
theorem wp_st {ops:Array Oper} {rest:List Oper} {op:Oper} {a:Act} {w:World} {Q:Exit→Act→World→Prop} (d:op.guard=none) (x y:Operand) (e:op.op=.store 45 x y)
  (b:Nat) (g:a.eval x=.pointer (some ⟨b,0,none⟩)) (cs:List Value) (i:a.eval y=.agg cs.toArray) (hl:cs.length=20) (c:∀v∈cs,v.oneCell'=true) (f:w.there b 0 20)
  (h:wpList Tryz.prog ops Q rest (a.put op.dst undef) (w.setCells b 0 cs)):wpList Tryz.prog ops Q (op::rest) a w:=
 wpList_store_mid d 45 x y e b 0 cs.toArray g i (by simpa [hl] using f) (by rw[info20];simp[hl]) (all_oneCell_toArray c) (by simpa using h)
theorem run_ld (w:World) (b:Nat) (cs:List Value) (a:w.rangeAt b 0 cs) (hl:cs.length=20):(loadVar 45 ⟨b,0,none⟩).run Tryz.prog w=.ok (.agg cs.toArray) w:=
 run_loadVar_mid w b 0 45 cs _ a Tryz.underlying45 rfl (by rw[info20,hl])
theorem results_c3 {c:Func} {p u v:Tmp} {g:TypeId} (h:c.results=#[.cell p g,.tmp u,.tmp v]) {a:Array Value} {P:Program} {w:World} {b:Nat} {x y z:Value} (i:a.getD p undef=.pointer (some ⟨b,0,none⟩)) (hl:(loadVar g ⟨b,0,none⟩).run P w=.ok x w) (j:a.getD u undef=y) (k:a.getD v undef=z):
  (results c a).run P w=.ok (.tuple #[x,y,z]) w:=by
 simp only[results,h];simp[Sem.run_bind,Result.andThen,asAddr];have d:=i;have e:=j;have f:=k;simp at d e f;rw[d,e,f];simp[hl]
theorem _root_.Go.Proofs.YtaejnmmpddbbjaaGreatDoor.cY:type_of% @results_c3:= @results_c3
theorem results_c1 {a:Func} {p:Tmp} {e:TypeId} (h:a.results=#[.cell p e]) {d:Array Value} {P:Program} {w:World} {b:Nat} {x:Value} (f:d.getD p undef=.pointer (some ⟨b,0,none⟩)) (hl:(loadVar e ⟨b,0,none⟩).run P w=.ok x w):
  (results a d).run P w=.ok x w:=by
 simp only[results,h];simp[Sem.run_bind,Result.andThen,asAddr];have c:=f;simp at c;rw[c];simp[hl]
end Go.Proofs.YtaejnmmpddbbjaaGreatDoor.Mem
namespace Go.Proofs.YtaejnmmpddbbjaaGreatDoor.Wd
open Go.RowKit Mem Bw Nums Mmu
def cf (n:Nat) (f:Nat→Int):List Value:=(List.range n).map fun k=>.int .i64 (f k)
theorem cf_len (n:Nat) (f:Nat→Int):(cf n f).length=n:=by simp[cf]
theorem _root_.Go.Proofs.YtaejnmmpddbbjaaGreatDoor.ax:type_of% @cf_len:= @cf_len
theorem cf_at (n:Nat) (f:Nat→Int) (k:Nat) (h:k<n):(cf n f)[k]? =some (.int .i64 (f k)):=by simp[cf,h]
theorem cf_one (n:Nat) (f:Nat→Int):∀v∈cf n f,v.oneCell'=true:=by
 intro v a;obtain⟨k,_,rfl⟩:=List.mem_map.1 a;rfl
theorem _root_.Go.Proofs.YtaejnmmpddbbjaaGreatDoor.bK:type_of% @cf_one:= @cf_one
theorem range_belowO {w w':World} {b o:Nat} {cs:List Value} (h:w.rangeAt b o cs) (a:Below w.heap.size w w'):w'.rangeAt b o cs:=fun j v c=>by
 have:=h j v c;exact (a.cell (al _ _ this)).trans this
def IntsIn (w:World) (v:Value) (zs:List Int):Prop:=∃q b off cap,v=.slice q zs.length cap∧(0<zs.length→q=some ⟨b,off,none⟩)∧IntsAt w b off zs
theorem IntsIn.below {w w':World} {v:Value} {zs:List Int} (h:IntsIn w v zs) (e:Below w.heap.size w w'):IntsIn w' v zs:=by
 obtain⟨q,b,off,cap,a,c,d⟩:=h;exact⟨q,b,off,cap,a,c,d.below e⟩
def ListsIn (w:World) (v:Value) (ls:List (List Int)):Prop:=∃q b off cap,v=.slice q ls.length cap∧(0<ls.length→q=some ⟨b,off,none⟩)∧∀j (h:j<ls.length),∃x,w.cell? ⟨b,off+j,none⟩=some x∧IntsIn w x ls[j]
theorem ListsIn.below {w w':World} {v:Value} {ls:List (List Int)} (h:ListsIn w v ls) (a:Below w.heap.size w w'):ListsIn w' v ls:=by
 obtain⟨q,b,off,cap,d,e,f⟩:=h;refine⟨q,b,off,cap,d,e,fun j g=>?_⟩;obtain⟨x,c,hi⟩:=f j g;exact⟨x,(a.cell (al _ _ c)).trans c,hi.below a⟩
def RoomV:Value→Prop
 | .slice _ n cap=>n≤cap
 |_=>True
def TlbsIn (w:World) (v:Value) (ls:List (List Ent)):Prop:=∃q b off cap,v=.slice q ls.length cap∧(0<ls.length→q=some ⟨b,off,none⟩)∧∀j (h:j<ls.length),∃x,w.cell? ⟨b,off+j,none⟩=some x∧TlbIn w x ls[j]∧RoomV x
theorem TlbsIn.below {w w':World} {v:Value} {ls:List (List Ent)} (h:TlbsIn w v ls) (a:Below w.heap.size w w'):TlbsIn w' v ls:=by
 obtain⟨q,b,off,cap,d,e,f⟩:=h;refine⟨q,b,off,cap,d,e,fun j g=>?_⟩;obtain⟨x,c,hi⟩:=f j g;exact⟨x,(a.cell (al _ _ c)).trans c,hi.1.below a,hi.2⟩
def RowsIn (n:Nat) (w:World) (v:Value) (fs:List (Nat→Int)):Prop:=∃q b off cap,v=.slice q fs.length cap∧(0<fs.length→q=some ⟨b,off,none⟩)∧∀j (h:j<fs.length),w.rangeAt b (off+j*n) (cf n fs[j])
theorem RowsIn.below {n:Nat} {w w':World} {v:Value} {fs:List (Nat→Int)} (h:RowsIn n w v fs) (e:Below w.heap.size w w'):RowsIn n w' v fs:=by
 obtain⟨q,b,off,cap,a,c,d⟩:=h;exact⟨q,b,off,cap,a,c,fun j f=>range_belowO (d j f) e⟩
structure PW where
 ram:List Int
 kinds:List Int
 slots:List (Nat→Int)
 tasks:List (Nat→Int)
 lines:List (List Int)
 bits:List Int
 cores:List Int
 ready:List (List Int)
 tlbs:List (List Ent)
 doms:List Int
 time:Int
structure PW.Fits (p:PW):Prop where
 ram:p.ram.length≤1000
 kinds:p.kinds.length≤1000
 slots:p.slots.length≤1000
 tasks:p.tasks.length≤1000
 lines:p.lines.length≤1000
 line:∀l∈p.lines,l.length≤1000
 bits:p.bits.length≤1000
 cores:p.cores.length≤1000
 ready:p.ready.length≤1000
 next:∀l∈p.ready,l.length≤1000
 tlbs:p.tlbs.length≤1000
 doms:p.doms.length≤1000
structure WorldV (w:World) (v:Nat→Value) (p:PW):Prop where
 ram:IntsIn w (v 0) p.ram
 kinds:IntsIn w (v 1) p.kinds
 slots:RowsIn 7 w (v 2) p.slots
 tasks:RowsIn 20 w (v 3) p.tasks
 lines:ListsIn w (v 4) p.lines
 bits:IntsIn w (v 5) p.bits
 cores:IntsIn w (v 6) p.cores
 ready:ListsIn w (v 7) p.ready
 tlbs:TlbsIn w (v 8) p.tlbs
 doms:IntsIn w (v 9) p.doms
 time:v 10=.int .i64 p.time
theorem WorldV.below {w w':World} {v:Nat→Value} {p:PW} (h:WorldV w v p) (a:Below w.heap.size w w'):WorldV w' v p:=
 ⟨h.ram.below a,h.kinds.below a,h.slots.below a,h.tasks.below a,h.lines.below a,h.bits.below a,h.cores.below a,h.ready.below a,h.tlbs.below a,h.doms.below a,h.time⟩
end Go.Proofs.YtaejnmmpddbbjaaGreatDoor.Wd
namespace Go.Proofs.YtaejnmmpddbbjaaGreatDoor.Mem
open Go.RowKit
end Go.Proofs.YtaejnmmpddbbjaaGreatDoor.Mem
namespace Go.Proofs.YtaejnmmpddbbjaaGreatDoor.Wd
open Go.RowKit Mem Bw Nums Mmu
abbrev arr11 (v:Nat→Value):Array Value:=#[v 0,v 1,v 2,v 3,v 4,v 5,v 6,v 7,v 8,v 9,v 10]
end Go.Proofs.YtaejnmmpddbbjaaGreatDoor.Wd
namespace Go.Proofs.YtaejnmmpddbbjaaGreatDoor
open Go.ChangeShapes Go.WideShapes
theorem cell_int {P:Program} {w:World} {r:Reach} {base:Nat} {u:TypeId} {k:IntKind} {v:Value} (a:P.underlying u=some (.int k)) (h:Cell.okWide P w r base u v):
  ∃n,v=.int k n∧k.has n:=by
 simp only[Cell.okWide,a] at h
 cases v<;>simp_all [Cell.ok]
theorem val_int {P:Program} {w:World} {r:Reach} {base:Nat} {u:TypeId} {k:IntKind} {v:Value} (a:P.underlying u=some (.int k)) (h:Value.okWide P w r base u v):
  ∃n,v=.int k n∧k.has n:=by
 simp only[Value.okWide,a] at h;exact cell_int a h
theorem has_i64 {n:Int} (h:IntKind.i64.has n): -9223372036854775808≤n∧n≤9223372036854775807:=by
 obtain⟨a,b⟩:=h;simp[IntKind.min,IntKind.max,IntKind.signed,IntKind.bits] at a b;omega
end Go.Proofs.YtaejnmmpddbbjaaGreatDoor
namespace Go.Proofs.YtaejnmmpddbbjaaGreatDoor
open Go.ChangeShapes Go.WideShapes Go.RowKit Go.Deep
namespace Nums
open Mem
theorem addr_plain (b o k:Nat):(⟨b,o,none⟩:Addr).add k=⟨b,o+k,none⟩:=by unfold Addr.add;split<;>simp_all
theorem cellsI:Tryz.prog.cellsOf 3=1:=by kernel_rfl
end Nums
end Go.Proofs.YtaejnmmpddbbjaaGreatDoor
namespace Go.Proofs.YtaejnmmpddbbjaaGreatDoor.Mmu
open Go.ChangeShapes Go.WideShapes Go.RowKit Go.Deep Go.Joins Mem Nums
section
variable {H : Type} {enc : TypeId × Value → H} {P : Program} {w : World} {base : Nat} {spare : Nat → Bool} {held : Bool}
end
theorem val_bool {P:Program} {w:World} {r:Reach} {base:Nat} {u:TypeId} {v:Value} (a:P.underlying u=some .bool) (h:Value.okWide P w r base u v):∃b,v=.bool b:=by
 simp only[Value.okWide,a,Cell.okWide] at h
 cases v<;>simp_all [Cell.ok]
end Go.Proofs.YtaejnmmpddbbjaaGreatDoor.Mmu
namespace Go.Proofs.YtaejnmmpddbbjaaGreatDoor.Wd
open Go.ChangeShapes Go.WideShapes Go.RowKit Go.Deep Go.Joins Mem Nums Mmu
section
variable {H : Type} {enc : TypeId × Value → H} {w : World} {base : Nat} {spare : Nat → Bool} {held : Bool} {fuel : Nat} {cs : List Value} {x : DataW H × List MemPlace}
end
section
variable {H : Type} {enc : TypeId × Value → H} {w : World} {base : Nat} {spare : Nat → Bool} {held : Bool} {fuel : Nat} {cs : List Value} {x : DataW H × List MemPlace}
end
end Go.Proofs.YtaejnmmpddbbjaaGreatDoor.Wd
namespace Go.Proofs.YtaejnmmpddbbjaaGreatDoor.Wd
open Go.RowKit Mem Bw Nums Mmu
theorem below_setCells {w w':World} (h:Below w.heap.size w w') {b:Nat} (a:w.heap.size≤b):∀(c:List Value) (o:Nat),Below w.heap.size w (w'.setCells b o c)
 |[],_=>h
 |v::r,o=>by
  rw[World.setCells];exact below_setCells (bset h a v) a r (o+1)
theorem _root_.Go.Proofs.YtaejnmmpddbbjaaGreatDoor.dZ:type_of% @below_setCells:= @below_setCells
theorem make_row {T E:TypeId} {z:Value} {sz bytes:Nat} (d:Tryz.prog.underlying T=some (.slice E)) (f:(Tryz.prog.info? E).map (fun i=>(i.zero,i.size,i.bytes))=some (some z,sz,bytes)) (g:sz≤100) (e:bytes≤1000) (n:Nat) (b:n≤1000) (w:World):
  (Instr.makeSlice T (.int .i64 n) (.int .i64 n)).run Tryz.prog w=.ok (.slice (some ⟨w.heap.size,0,none⟩) n n) (w.alloc (.cells (madeCells z.cells (n*sz)) E)):=by
 obtain⟨i0,hi,h,c,j⟩:=info_get f;have k:n*i0.size≤1000*100:=by rw[c];exact Nat.mul_le_mul b g
 have l:i0.bytes*n≤1000*1000:=by rw[j];exact Nat.mul_le_mul e b
 have a:=run_makeSlice (P:=Tryz.prog) w T E i0 z d hi h .i64 .i64 n n (by omega) (Int.le_refl _) (by simp only[ah];omega) (by
  have:((i0.bytes*n:Nat):Int)≤281474976710656:=by omega
  rwa [Int.natCast_mul] at this) (by omega)
 simp only[ah] at a;rw[c] at a;exact a
end Go.Proofs.YtaejnmmpddbbjaaGreatDoor.Wd
namespace Go.Proofs.YtaejnmmpddbbjaaGreatDoor.Mmu
open Go.RowKit Mem Bw Nums
theorem add_none (b off j:Nat):(⟨b,off,none⟩:Addr).add j=⟨b,off+j,none⟩:=by
 unfold Addr.add;split<;>simp_all
theorem ents_cells {w:World} {b off:Nat} {l:List Ent} (h:EntsAt w b off l):∀(j:Nat) (u:Value),(cellsE l)[j]? =some u→w.cell? ((⟨b,off,none⟩:Addr).add j)=some u:=by
 intro j u a;have i:j<(cellsE l).length:=(List.getElem?_eq_some_iff.1 a).1;rw[cellsE_len] at i;rw[add_none];have hk:j/4<l.length:=by omega
 obtain⟨a0,a1,d,e⟩:=h _ hk;obtain⟨f,e1,e2,g⟩:=cellsE_at l _ hk;have c:j=j/4*4∨j=j/4*4+1∨j=j/4*4+2∨j=j/4*4+3:=by omega
 rcases c with c|c|c|c
 ·rw[c] at a ⊢;rw[←a,f];exact a0
 ·rw[c] at a ⊢;rw[←a,e1, ←a1];rfl
 ·rw[c] at a ⊢;rw[←a,e2, ←d];rfl
 ·rw[c] at a ⊢;rw[←a,g, ←e];rfl
theorem cellsE_one (l:List Ent):∀u∈cellsE l,u.oneCell'=true:=by
 intro u b;obtain⟨q,_,a⟩:=List.mem_flatMap.1 b;exact fourE_cell _ _ _ _ u a
set_option maxHeartbeats 4000000
theorem clone_any (v:Value) (l:List Ent) (w:World) (G:TlbIn w v l):
  Calls Tryz.prog 53 #[v] w fun r w'=>∃u,r=.returned u∧w'.ownsRow w.heap.size 56 4 u l.length (cellsE l)∧Below w.heap.size w w':=by
 obtain⟨i0,hi,H,I,J⟩:=info_get infoEnt;have L:∀(w:World) (a:Option Addr) (n c g f:Nat),(binOp .eql 31 (.slice a n c) (.slice none g f)).run Tryz.prog w=.ok (.bool a.isNone) w:=fun w a n c g f=>Lib.run_eql_slice_nil w _ _ a n c g f Tryz.underlying31;obtain⟨q,b,off,cap,rfl,t,y,hl⟩:=G;have i:=hid t;have D:=hid y;clear t y
 cases q with
 |none=>
  have d:l=[]:=by
   cases l with
   |nil=>rfl
   |cons x l=>have:=i.out (by simp);cases this
  subst d;go_enter Tryz.func53,Tryz.ntmps53
  go_wp2_with fail
  go_ret
  exact⟨_,rfl,cT _ _ _ _,aj _ _⟩
 |some ad=>
  have C:=hid (show ∀(W:World),Below w.heap.size w W→∀(j:Nat) (u:Value),(cellsE l)[j]? =some u→W.cell? (ad.add j)=some u from fun W F=>by
   by_cases d:0<l.length
   ·have:=i.out d
    cases this
    exact ents_cells (D.below F)
   ·intro j u p;have:l=[]:=by
     cases l with
     |nil=>rfl
     |cons x l=>simp at d
    rw[this] at p;simp[cellsE] at p)
  have B:=hid (cellsE_len l);have A:=hid (cellsE_one l);have K:l.length≤maxLen:=by unfold maxLen;omega
  have h:=hid (bal (aj w.heap.size w) (.cells #[] 56));have m:=hid (de (base:=w.heap.size) (e:=56) (size:=4) w #[] 0 (au _) (bI _) (by simp));generalize cellsE l=cs at*;go_enter Tryz.func53,Tryz.ntmps53
  go_wp2_with (at_builtin;refine bf _ rfl _ _ 31 rfl w.heap.size 56 i0 (.agg #[.int .i64 0,.int .i64 0,.int .i64 0,.bool false]) 4 32 Tryz.underlying31 hi H I J rfl (by decide) _ _ _ rfl m ad l.length cap cs rfl B (C.out _ h) A (by omega) (by omega) (by simp) ?_;intro M N s o _;have z:=hid (h.grown o (by simp) (fun k hk=>(m.lt k hk).1));have E:=hid s;clear s o)
  go_ret
  refine⟨_,rfl,?_,z.out⟩;have:=E.out;rw[aC,List.nil_append] at this;exact this
end Go.Proofs.YtaejnmmpddbbjaaGreatDoor.Mmu
namespace Go.Proofs.YtaejnmmpddbbjaaGreatDoor
namespace IP
set_option maxHeartbeats 200000
def hA (o:Int):Bool:= !decide (o=0∨o=12∨o=14)
def hB (o:Int):Bool:= !decide (o=0∨o=1∨o=13∨o=12∨o=14)
def hC (o:Int):Bool:=decide (o=1∨o=13∨o=10∨o=11∨o=12∨o=14)
def fitB (v:Int) (has:Bool) (lo hi:Int):Bool:=if has=true then decide (lo≤v∧v≤hi) else decide (v=0)
def may (o a b i:Int):Int:=
 if o<0∨14<o then 1
 else if fitB a (hA o) 0 7=true∧fitB b (hB o) 0 7=true∧fitB i (hC o) (-32768) 32767=true then 0 else 2
def word (x y:Int):Prop:=0≤x∧x≤65535∧0≤y∧y≤65535
end IP
end Go.Proofs.YtaejnmmpddbbjaaGreatDoor
namespace Go.Proofs.YtaejnmmpddbbjaaGreatDoor.Isa
open Go.RowKit Mem
theorem far_any (v a:Int) (w:World):
  Calls Tryz.prog 33 #[.int .i64 v,.int .i64 a] w fun e w'=>e=.returned (.bool (decide (v<0∨a<v)))∧w=w':=by
 go_enter Tryz.func33,Tryz.ntmps33
 go_wp2
 all_goals
  go_ret
  exact⟨ret_bool (by first|rfl|simp|(rw[dF];simp;omega)),rfl⟩
end Go.Proofs.YtaejnmmpddbbjaaGreatDoor.Isa
namespace Go.Proofs.YtaejnmmpddbbjaaGreatDoor.Wd
open Go.RowKit Mem Bw Nums Mmu
def bl (k:Nat):Int:=[0,0,0,0,0,0,0,0,0,0,0, -1, -1, -1, -1,0,0, -1,0,0].getD k 0
theorem blank_ref (w:World):Calls Tryz.prog 77 #[] w fun e w'=>e=.returned (.agg (cf 20 bl).toArray)∧Below w.heap.size w w':=by
 have a:=hid (aM w #[.int .i64 0,.int .i64 0,.int .i64 0,.int .i64 0,.int .i64 0,.int .i64 0,.int .i64 0,.int .i64 0,.int .i64 0,.int .i64 0,.int .i64 0,.int .i64 0,.int .i64 0,.int .i64 0,.int .i64 0,.int .i64 0,.int .i64 0,.int .i64 0,.int .i64 0,.int .i64 0] 45 w.heap.size 20 rfl (by decide));go_enter Tryz.func77,Tryz.ntmps77
 go_wp2_with (first
  |((with_reducible refine gst 45 ?_);refine wp_st rfl _ _ rfl _ rfl (cf 20 bl) rfl (ax _ _) (bK _ _) a ?_;have E:=hid (World.rangeAt_setCells_same _ w.heap.size 0 (cf 20 bl) (by rw[ax];exact a));have b:=hid (dZ (bal (aj w.heap.size w) (.cells #[.int .i64 0,.int .i64 0,.int .i64 0,.int .i64 0,.int .i64 0,.int .i64 0,.int .i64 0,.int .i64 0,.int .i64 0,.int .i64 0,.int .i64 0,.int .i64 0,.int .i64 0,.int .i64 0,.int .i64 0,.int .i64 0,.int .i64 0,.int .i64 0,.int .i64 0,.int .i64 0] 45)) (au _) (cf 20 bl) 0)))
 refine aq (v:=.agg (cf 20 bl).toArray) (results_c1 rfl rfl (run_ld _ _ (cf 20 bl) E (ax _ _))) rfl ⟨rfl,b.out⟩
def nd (z:Int):Bool:= !decide (0≤z∧z≤3)
structure ViewAt (w:World) (vb:Nat) (V:Nat→Value) (p:PW):Prop where
 r:w.rangeAt vb 0 (arr11 V).toList
 v:WorldV w V p
 f:p.Fits
theorem ViewAt.below {w w':World} {vb:Nat} {V:Nat→Value} {p:PW} (h:ViewAt w vb V p) (a:Below w.heap.size w w'):ViewAt w' vb V p:=⟨d9 h.r a,h.v.below a,h.f⟩
def kindAt (p:PW) (f:Int):Option Int:=if 0≤f then p.kinds[f.toNat]? else none
def isB (p:PW) (f k:Int):Bool:=kindAt p f==some k
theorem kindAt_some {p:PW} {j:Nat} (h:j<p.kinds.length):kindAt p (j:Int)=some p.kinds[j]:=by
 unfold kindAt;rw[ag (by omega),ah,ac h]
theorem kindAt_none {p:PW} {f:Int} (h:¬(0≤f∧f≤(p.kinds.length:Int) - 1)):kindAt p f=none:=by
 unfold kindAt;split
 ·rw[aH (by omega)]
 ·rfl
def frB (p:PW) (n:Int):Bool:=decide (0≤n∧n≤(p.kinds.length:Int) - 1)
def isOrB (p:PW) (f k:Int):Bool:=f== -1||isB p f k
set_option maxRecDepth 100000
theorem kindOf_any (V:Nat→Value) (p:PW) (f:Int) (w:World) (g:WorldV w V p) (e:p.Fits):
  Calls Tryz.prog 125 #[.agg (arr11 V),.int .i64 f] w fun r w'=>r=.returned (.int .i64 ((kindAt p f).getD (-1)))∧Below w.heap.size w w':=by
 have m:=cJ w (arr11 V) 28;have c:=hid (bal (aj w.heap.size w) (.cells (arr11 V) 28));obtain⟨q,b,off,cap,e1,k,h⟩:=g.kinds;have hl:(p.kinds.length:Int)≤1000:=by have:=e.kinds;omega
 by_cases d:0≤f∧f≤(p.kinds.length:Int) - 1
 ·obtain⟨j,rfl⟩:∃j:Nat,f=j:=⟨f.toNat,by omega⟩
  have i:j<p.kinds.length:=by omega
  have s:(j:Int)<(p.kinds.length:Int):=by omega
  obtain rfl:=k (by omega);have l:=(h.below c) j i;have a:=hid (show (kindAt p (j:Int)).getD (-1)=p.kinds[j] by rw[kindAt_some i];rfl);generalize p.kinds[j]=z at l a;clear d h g e;go_enter Tryz.func125,Tryz.ntmps125
  go_wp2_with fail
  go_ret
  exact⟨by rw[a.out];rfl,c.out⟩
 ·have a:=hid (show (kindAt p f).getD (-1)= -1 by rw[kindAt_none d];rfl);clear h k g e;by_cases n:f<0
  ·clear d;go_enter Tryz.func125,Tryz.ntmps125
   go_wp2_with fail
   go_ret
   exact⟨by rw[a.out];rfl,c.out⟩
  ·have o:(p.kinds.length:Int)≤f:=by omega
   clear d;go_enter Tryz.func125,Tryz.ntmps125
   go_wp2_with fail
   go_ret
   exact⟨by rw[a.out];rfl,c.out⟩
set_option maxRecDepth 512
def wB (v:Int):Bool:=decide (0≤v∧v≤65535)
def nwB (v:Int):Bool:= !wB v
theorem range_at {w:World} {b o k:Nat} {cs:List Value} {v:Value} (h:w.rangeAt b o cs) (hk:cs[k]? =some v):w.cell? ⟨b,o+k,none⟩=some v:=h k v hk
theorem _root_.Go.Proofs.YtaejnmmpddbbjaaGreatDoor.ey:type_of% @range_at:= @range_at
theorem isB_in {p:PW} {f k:Int} (h:isB p f k=true):∃j:Nat,f=j∧j<p.kinds.length:=by
 unfold isB kindAt at h;split at h
 ·refine⟨f.toNat,by omega,?_⟩;by_cases hl:f.toNat<p.kinds.length
  ·exact hl
  ·rw[aH (by omega)] at h;exact absurd h (by simp)
 ·exact absurd h (by simp)
def nkB (k:Int):Bool:= !decide (0≤k∧k≤8)||k==1
def rdB (p:PW) (t core:Int):Bool:=isB p t 6&&(match p.tasks[t.toNat]? with|some f=>f 9==1&&f 18==core|none=>false)
def bcB (p:PW) (core t:Int):Bool:= !(t== -1)&& !rdB p t core
theorem infoW:(Tryz.prog.info? 28).map (·.size)=some 11:=by kernel_rfl
theorem wp_ldW {ops:Array Oper} {rest:List Oper} {op:Oper} {a:Act} {w:World} {Q:Exit→Act→World→Prop} (d:op.guard=none) (x:Operand) (e:op.op=.load 28 x)
  (b:Nat) (f:a.eval x=.pointer (some ⟨b,0,none⟩)) (V:Nat→Value) (c:w.rangeAt b 0 (arr11 V).toList)
  (h:wpList Tryz.prog ops Q rest (a.put op.dst (.agg (arr11 V))) w):wpList Tryz.prog ops Q (op::rest) a w:=
 wpList_load_mid d 28 x e b 0 f (arr11 V).toList _ c Tryz.underlying28 rfl infoW h
theorem boxed (w:World) (V:Nat→Value) (t:TypeId):(w.alloc (.cells (arr11 V) t)).rangeAt w.heap.size 0 (arr11 V).toList:=fun k v hk=>by
 rw[aC,cJ w (arr11 V) t k];simpa using hk
def rpB (p:PW) (t core prio:Int):Bool:=rdB p t core&&(decide (prio<0)||(match p.tasks[t.toNat]? with|some f=>f 10==prio|none=>false))
theorem isB_kind {p:PW} {f k:Int} (hk:k≠ -1):isB p f k=((kindAt p f).getD (-1)==k):=by
 unfold isB
 cases kindAt p f with
 |none=>simp[Ne.symm hk]
 |some z=>simp
def brB (p:PW) (n:Nat) (zs:List Int):Bool:=zs.any fun t=> !rpB p t ((n:Int)/4) ((n:Int)%4)
def beB (p:PW) (k e:Int):Bool:=if k=4 then !(e==0)&& !isB p (e - 32768) 3 else if k=3 then !(e==0)&& !isB p (e - 32768) 2&& !isB p (e - 32768 - 16384) 2 else false
theorem wp_ldWg {ops:Array Oper} {rest:List Oper} {op:Oper} {a:Act} {w:World} {Q:Exit→Act→World→Prop} (f:Region.wanted op (yielded ops a.tmps)=true) (x:Operand) (e:op.op=.load 28 x)
  (b:Nat) (g:a.eval x=.pointer (some ⟨b,0,none⟩)) (V:Nat→Value) (d:w.rangeAt b 0 (arr11 V).toList)
  (h:wpList Tryz.prog ops Q rest (a.put op.dst (.agg (arr11 V))) w):wpList Tryz.prog ops Q (op::rest) a w:=
 BigFrame.wpList_want f fun _ c=>wp_load_mid 28 x e b 0 g (arr11 V).toList _ d Tryz.underlying28 rfl infoW (c _ _ h)
end Go.Proofs.YtaejnmmpddbbjaaGreatDoor.Wd
namespace Go.Proofs.YtaejnmmpddbbjaaGreatDoor.Mmu
open Go.RowKit Mem Bw Nums
def n16 (zs:List Int):Int:=(zs.length:Int)/16
def e1 (zs:List Int) (s a:Int):Int:=zs.getD (s*16+a/256).toNat 0
def e2 (zs:List Int) (t a:Int):Int:=zs.getD (t*16+a/16%16).toNat 0
def walkR (zs:List Int) (s a:Int):Int×Bool×Int:=
 if ¬inb zs.length s a then (0,false,2)
 else if ¬isE (e1 zs s a) (n16 zs) then (0,false,9)
 else if ¬isE (e2 zs (e1 zs s a%1024) a) (n16 zs) then (0,false,9)
 else (e2 zs (e1 zs s a%1024) a%1024,decide (e2 zs (e1 zs s a%1024) a/16384%2=1),0)
def errV (k:Int):Value:=if k=0 then .nilIface else .iface 36 (.int .i64 k)
theorem getD_some {zs:List Int} {j:Nat} (h:j<zs.length):zs[j]? =some (zs.getD j 0):=by
 rw[ac h,aa,ac h];rfl
theorem walkR_range {zs:List Int} {s a:Int} (h:¬inb zs.length s a):walkR zs s a=(0,false,2):=by unfold walkR;rw[ag h]
theorem walkR_no1 {zs:List Int} {s a:Int} (h:inb zs.length s a) (b:¬isE (e1 zs s a) (n16 zs)):walkR zs s a=(0,false,9):=by unfold walkR;rw[ae (fun k=>k h),ag b]
theorem walkR_no2 {zs:List Int} {s a:Int} (h:inb zs.length s a) (b:isE (e1 zs s a) (n16 zs)) (c:¬isE (e2 zs (e1 zs s a%1024) a) (n16 zs)):walkR zs s a=(0,false,9):=by
 unfold walkR;rw[ae (fun k=>k h),ae (fun k=>k b),ag c]
theorem walkR_yes {zs:List Int} {s a:Int} (h:inb zs.length s a) (b:isE (e1 zs s a) (n16 zs)) (c:isE (e2 zs (e1 zs s a%1024) a) (n16 zs)):walkR zs s a=(e2 zs (e1 zs s a%1024) a%1024,decide (e2 zs (e1 zs s a%1024) a/16384%2=1),0):=by
 unfold walkR;rw[ae (fun k=>k h),ae (fun k=>k b),ae (fun k=>k c)]
theorem idx1 {zs:List Int} {s a:Int} (h:inb zs.length s a):0≤s∧0≤a/256∧s*16+a/256<zs.length:=by
 unfold inb at h;omega
theorem idx2 {zs:List Int} {s a:Int} (h:inb zs.length s a) (b:isE (e1 zs s a) (n16 zs)):0≤e1 zs s a%1024∧0≤a/16%16∧e1 zs s a%1024*16+a/16%16<zs.length:=by
 unfold inb at h;unfold isE n16 at b;omega
end Go.Proofs.YtaejnmmpddbbjaaGreatDoor.Mmu
