/- Qad -/
import Derived.Test.YtaejnmmpddbbjaaGreatDoorProg
import Derived.WalkKit
import Derived.WalkSpells
import Derived.WalkLawsBesides
import Derived.LaidEql
import Derived.Stop.Asserts
import Derived.RowKitTokens
import Derived.BigQuiet
import Derived.Deep.RegionHeld3
import Derived.Test.YtaejnmmpddbbjaaGreatDoorQac
set_option maxRecDepth 100000
set_option maxHeartbeats 16000000
namespace Go.Proofs.YtaejnmmpddbbjaaGreatDoor
open Go.RowKit Go.Extern.Stop Go.Stop Go.Extern
theorem rlm (z:Sem Value) (f:TypeId->Addr->Nat->Nat->Sem Value) (v:Value):
  ReflectliteValue.method z f #[v]=(do match <-ReflectliteValue.parts v with|none=>z|some (t,a,fl)=>f t a fl (fl%32)):=rfl
theorem mE (h:Value) (w:World):(Go.method 347 150 (.agg #[h]) "Kind").run Tryz.prog w=.ok (199,h) w:=by kernel_rfl
theorem mD (h:Value) (w:World):(Go.method 347 150 (.agg #[h]) "Elem").run Tryz.prog w=.ok (211,.agg #[h]) w:=by kernel_rfl
theorem iB (h:Value) (w:World):(Go.method 347 150 (.agg #[h]) "Implements").run Tryz.prog w=.ok (212,.agg #[h]) w:=by kernel_rfl
theorem gW (h:Value) (w:World):(Go.method 347 150 (.agg #[h]) "AssignableTo").run Tryz.prog w=.ok (209,.agg #[h]) w:=by kernel_rfl
theorem vx (w:World):(ReflectliteType.relation "AssignableTo" ReflectliteType.assignableTo #[.agg #[.pointer (some ⟨3,36,none⟩)],.iface 150 (.agg #[.pointer (some ⟨3,59,none⟩)])]).run Tryz.prog w=.ok (.bool false) w:=by kernel_rfl
theorem sQ (t:Addr) (w:World):(ReflectliteValue.unpack (.iface 61 (.pointer (some t)))).run Tryz.prog w
  =.ok (.agg #[.pointer (some ⟨3,61,none⟩),.pointer (some ⟨w.heap.size,0,none⟩),.int .u64 150]) (w.alloc (.cells #[.pointer (some t)] 61)):=by kernel_rfl
theorem zX (a:Addr) (w:World):(ReflectliteValue.methodAny (ReflectliteValue.valueError "reflectlite.Value.Type" 0) (fun t _ _ _=>ReflectliteType.toType t) #[.agg #[.pointer (some ⟨3,61,none⟩),.pointer (some a),.int .u64 150]]).run Tryz.prog w
  =.ok (.iface 150 (.agg #[.pointer (some ⟨3,61,none⟩)])) w:=by kernel_rfl
theorem yZ (w:World):((ReflectliteType.abiMethod fun t=>(fun a:Nat=>Value.int IntKind.u8 (a:Int))<$>Rtype.kind t) #[.pointer (some ⟨3,61,none⟩)]).run Tryz.prog w=.ok (.int .u8 22) w:=by kernel_rfl
theorem yX (w:World):((ReflectliteType.abiMethod fun t=>(fun a:Nat=>Value.int IntKind.u8 (a:Int))<$>Rtype.kind t) #[.pointer (some ⟨3,59,none⟩)]).run Tryz.prog w=.ok (.int .u8 22) w:=by kernel_rfl
theorem wK (a:Addr) (w:World):(ReflectliteValue.parts (.agg #[.pointer (some ⟨3,61,none⟩),.pointer (some a),.int .u64 150])).run Tryz.prog w=.ok (some (61,a,150)) w:=by kernel_rfl
theorem wh (a p:Addr) (W:World) (b:W.cell? a=some (.pointer (some p))):
  (ReflectliteValue.method (ReflectliteValue.valueError "reflectlite.Value.IsNil" 0) ReflectliteValue.isNil #[.agg #[.pointer (some ⟨3,61,none⟩),.pointer (some a),.int .u64 150]]).run Tryz.prog W=.ok (.bool false) W:=by
 rw[rlm];simp only[Sem.run_bind,wK,Result.andThen];simp[ReflectliteValue.isNil,loadVar,isAgg,underlying,Tryz.underlying61,b,Result.andThen]
theorem yD (w:World):(ReflectliteType.method ReflectliteType.elem #[.agg #[.pointer (some ⟨3,61,none⟩)]]).run Tryz.prog w=.ok (.iface 150 (.agg #[.pointer (some ⟨3,59,none⟩)])) w:=by kernel_rfl
theorem yP (w:World):(ReflectliteType.relation "Implements" ReflectliteType.implements_ #[.agg #[.pointer (some ⟨3,59,none⟩)],.iface 150 (.agg #[.pointer (some ⟨3,33,none⟩)])]).run Tryz.prog w=.ok (.bool true) w:=by kernel_rfl
theorem sP (t:Addr) (w:World):(ReflectliteValue.unpack (.iface 64 (.pointer (some t)))).run Tryz.prog w
  =.ok (.agg #[.pointer (some ⟨3,64,none⟩),.pointer (some ⟨w.heap.size,0,none⟩),.int .u64 150]) (w.alloc (.cells #[.pointer (some t)] 64)):=by kernel_rfl
theorem zU (a:Addr) (w:World):(ReflectliteValue.methodAny (ReflectliteValue.valueError "reflectlite.Value.Type" 0) (fun t _ _ _=>ReflectliteType.toType t) #[.agg #[.pointer (some ⟨3,64,none⟩),.pointer (some a),.int .u64 150]]).run Tryz.prog w
  =.ok (.iface 150 (.agg #[.pointer (some ⟨3,64,none⟩)])) w:=by kernel_rfl
theorem yY (w:World):((ReflectliteType.abiMethod fun t=>(fun a:Nat=>Value.int IntKind.u8 (a:Int))<$>Rtype.kind t) #[.pointer (some ⟨3,64,none⟩)]).run Tryz.prog w=.ok (.int .u8 22) w:=by kernel_rfl
theorem yW (w:World):((ReflectliteType.abiMethod fun t=>(fun a:Nat=>Value.int IntKind.u8 (a:Int))<$>Rtype.kind t) #[.pointer (some ⟨3,36,none⟩)]).run Tryz.prog w=.ok (.int .u8 2) w:=by kernel_rfl
theorem rF (a:Addr) (w:World):(ReflectliteValue.parts (.agg #[.pointer (some ⟨3,64,none⟩),.pointer (some a),.int .u64 150])).run Tryz.prog w=.ok (some (64,a,150)) w:=by kernel_rfl
theorem wg (a p:Addr) (W:World) (b:W.cell? a=some (.pointer (some p))):
  (ReflectliteValue.method (ReflectliteValue.valueError "reflectlite.Value.IsNil" 0) ReflectliteValue.isNil #[.agg #[.pointer (some ⟨3,64,none⟩),.pointer (some a),.int .u64 150]]).run Tryz.prog W=.ok (.bool false) W:=by
 rw[rlm];simp only[Sem.run_bind,rF,Result.andThen];simp[ReflectliteValue.isNil,loadVar,isAgg,underlying,Tryz.underlying64,b,Result.andThen]
theorem yC (w:World):(ReflectliteType.method ReflectliteType.elem #[.agg #[.pointer (some ⟨3,64,none⟩)]]).run Tryz.prog w=.ok (.iface 150 (.agg #[.pointer (some ⟨3,36,none⟩)])) w:=by kernel_rfl
theorem yO (w:World):(ReflectliteType.relation "Implements" ReflectliteType.implements_ #[.agg #[.pointer (some ⟨3,36,none⟩)],.iface 150 (.agg #[.pointer (some ⟨3,33,none⟩)])]).run Tryz.prog w=.ok (.bool true) w:=by kernel_rfl
theorem pt (v:Value) (w:World):(ReflectliteType.typeOf #[.iface 36 v]).run Tryz.prog w=.ok (.iface 150 (.agg #[.pointer (some ⟨3,36,none⟩)])) w:=by kernel_rfl
theorem s4 (w:World):(ReflectliteType.relation "AssignableTo" ReflectliteType.assignableTo #[.agg #[.pointer (some ⟨3,36,none⟩)],.iface 150 (.agg #[.pointer (some ⟨3,36,none⟩)])]).run Tryz.prog w=.ok (.bool true) w:=by kernel_rfl
theorem vI (w:World):(Rtype.elem? 64).run Tryz.prog w=.ok (some 36) w:=by kernel_rfl
theorem Dc (p:Addr) (w:World):(ReflectliteValue.mk 36 p ReflectliteValue.flagAddr).run Tryz.prog w=.ok (.agg #[.pointer (some ⟨3,36,none⟩),.pointer (some p),.int .u64 386]) w:=by kernel_rfl
theorem yE (a p:Addr) (W:World) (b:W.cell? a=some (.pointer (some p))):
  (ReflectliteValue.method (ReflectliteValue.valueError "reflectlite.Value.Elem" 0) ReflectliteValue.elem #[.agg #[.pointer (some ⟨3,64,none⟩),.pointer (some a),.int .u64 150]]).run Tryz.prog W
   =.ok (.agg #[.pointer (some ⟨3,36,none⟩),.pointer (some p),.int .u64 386]) W:=by
 rw[rlm];simp only[Sem.run_bind,rF,Result.andThen];simp[ReflectliteValue.elem,loadVar,isAgg,underlying,Tryz.underlying64,b,Result.andThen,vI,Dc]
theorem wI (a:Addr) (w:World):(ReflectliteValue.parts (.agg #[.pointer (some ⟨3,36,none⟩),.pointer (some a),.int .u64 386])).run Tryz.prog w=.ok (some (36,a,386)) w:=by kernel_rfl
theorem wJ (a:Addr) (w:World):(ReflectliteValue.parts (.agg #[.pointer (some ⟨3,36,none⟩),.pointer (some a),.int .u64 130])).run Tryz.prog w=.ok (some (36,a,130)) w:=by kernel_rfl
theorem tj (w:World):(Rtype.directlyAssignable 36 36).run Tryz.prog w=.ok true w:=by kernel_rfl
theorem sO (n:Int) (w:World):(ReflectliteValue.unpack (.iface 36 (.int .i64 n))).run Tryz.prog w
  =.ok (.agg #[.pointer (some ⟨3,36,none⟩),.pointer (some ⟨w.heap.size,0,none⟩),.int .u64 130]) (w.alloc (.cells #[.int .i64 n] 36)):=by kernel_rfl
theorem BV (a b:Addr) (n:Int) (old:Value) (W:World) (c:W.cell? b=some (.int .i64 n)) (e:W.cell? a=some old) (d:W.frozen? a=false):
  (ReflectliteValue.set #[.agg #[.pointer (some ⟨3,36,none⟩),.pointer (some a),.int .u64 386],.agg #[.pointer (some ⟨3,36,none⟩),.pointer (some b),.int .u64 130]]).run Tryz.prog W
   =.ok (.tuple #[]) (W.setCell a (.int .i64 n)):=by
 show (ReflectliteValue.parts (.agg #[.pointer (some ⟨3,36,none⟩),.pointer (some a),.int .u64 386])>>=fun f=>ReflectliteValue.parts (.agg #[.pointer (some ⟨3,36,none⟩),.pointer (some b),.int .u64 130])>>=fun g=>_).run _ _=_
 simp only[Sem.run_bind,wI,wJ,Result.andThen];simp[ReflectliteValue.flagAddr,loadVar,isAgg,underlying,Tryz.underlying36,c,Result.andThen,tj,storeVar,Value.cells,storeCells,Addr.add];rw[run_store Tryz.prog W a _ _ (by rfl)];simp[e,d]
theorem Bm (v:Value) (a:TypeId) (w:World):(Instr.typeAssert (.iface 36 v) a 155 true).run Tryz.prog w=.ok (.tuple #[.nilIface,.bool false]) w:=run_typeAssert_lacksB Tryz.underlying155 (by kernel_rfl) (by kernel_rfl) v a w
theorem Bn (v:Value) (a:TypeId) (w:World):(Instr.typeAssert (.iface 36 v) a 158 true).run Tryz.prog w=.ok (.tuple #[.nilIface,.bool false]) w:=run_typeAssert_lacksB Tryz.underlying158 (by kernel_rfl) (by kernel_rfl) v a w
theorem zk (v:Value) (a:TypeId) (w:World):(Instr.typeAssert (.iface 36 v) a 160 true).run Tryz.prog w=.ok (.tuple #[.nilIface,.bool false]) w:=run_typeAssert_lacksB Tryz.underlying160 (by kernel_rfl) (by kernel_rfl) v a w
theorem sd (n:Int) (t:Addr) (w:World) (a:w.cell? ⟨0,0,none⟩=some (.iface 150 (.agg #[.pointer (some ⟨3,33,none⟩)]))):
  Calls Tryz.prog 23 #[.iface 36 (.int .i64 n),.iface 61 (.pointer (some t))] w fun c w'=>c=.returned (.bool false)∧Below w.heap.size w w':=by
 have v:= @run_callFunc_extern Tryz.prog 56 _ (fun b=>ReflectliteValue.unpack (b.getD 0 (.tuple #[]))) Tryz.func56 (by kernel_rfl) (by kernel_rfl) (by kernel_rfl) (by kernel_rfl);have x:= @run_callFunc_extern Tryz.prog 57 _ (ReflectliteValue.methodAny (ReflectliteValue.valueError "reflectlite.Value.Type" 0) (fun t _ _ _=>ReflectliteType.toType t)) Tryz.func57 (by kernel_rfl) (by kernel_rfl) (by kernel_rfl) (by kernel_rfl);have y:= @run_callFunc_extern Tryz.prog 58 _ (ReflectliteValue.method (ReflectliteValue.valueError "reflectlite.Value.IsNil" 0) ReflectliteValue.isNil) Tryz.func58 (by kernel_rfl) (by kernel_rfl) (by kernel_rfl) (by kernel_rfl);have z:= @run_callFunc_extern Tryz.prog 199 _ (ReflectliteType.abiMethod fun t=>do pure (.int .u8 (<-Rtype.kind t))) Tryz.func199 (by kernel_rfl) (by kernel_rfl) (by kernel_rfl) (by kernel_rfl);have A:= @run_callFunc_extern Tryz.prog 211 _ (ReflectliteType.method ReflectliteType.elem) Tryz.func211 (by kernel_rfl) (by kernel_rfl) (by kernel_rfl) (by kernel_rfl);have B:= @run_callFunc_extern Tryz.prog 212 _ (ReflectliteType.relation "Implements" ReflectliteType.implements_) Tryz.func212 (by kernel_rfl) (by kernel_rfl) (by kernel_rfl) (by kernel_rfl);have C:= @run_callFunc_extern Tryz.prog 95 _ (ReflectliteType.typeOf) Tryz.func95 (by kernel_rfl) (by kernel_rfl) (by kernel_rfl) (by kernel_rfl);have D:= @run_callFunc_extern Tryz.prog 209 _ (ReflectliteType.relation "AssignableTo" ReflectliteType.assignableTo) Tryz.func209 (by kernel_rfl) (by kernel_rfl) (by kernel_rfl) (by kernel_rfl);have m:=mE;have k:=mD;have l:=iB;have j:=gW;have u:=sQ;have s:=zX;have i:=yZ;have h:=yX;have e:=yD;have g:=yP;have o:=wh ⟨w.heap.size,0,none⟩ t ((w.alloc (.cells #[.pointer (some t)] 61)).alloc (.cells #[.pointer (some ⟨3,61,none⟩),.pointer (some ⟨w.heap.size,0,none⟩),.int .u64 150] 102)) (by simp);have d:0<w.heap.size:=World.block_lt_of_cell? _ _ a;have f:((w.alloc (.cells #[.pointer (some t)] 61)).alloc (.cells #[.pointer (some ⟨3,61,none⟩),.pointer (some ⟨w.heap.size,0,none⟩),.int .u64 150] 102)).cell? ⟨0,0,none⟩=some (.iface 150 (.agg #[.pointer (some ⟨3,33,none⟩)])):=by
  rw[World.cell?_alloc_lt _ _ ⟨0,0,none⟩ (by simp<;>omega),World.cell?_alloc_lt _ _ ⟨0,0,none⟩ d];exact a
 have r:=pt;have a1:=vx;have q1:=Bm;have p:=Bn;have q:=zk;go_enter Tryz.func23,Tryz.ntmps23
 go_wp2
 refine wp_loop_rounds 1 ?_;rw[rounds_succ]
 go_wp2
 go_ret
 exact⟨rfl,(((Below.refl _ _).alloc (Nat.le_refl _) _).alloc (by simp) _).alloc (by simp<;>omega) _⟩
theorem sc (n:Int) (t:Addr) (old:Value) (w:World) (a:w.cell? ⟨0,0,none⟩=some (.iface 150 (.agg #[.pointer (some ⟨3,33,none⟩)]))) (b:w.cell? t=some old) (f:w.frozen? t=false):
  Calls Tryz.prog 23 #[.iface 36 (.int .i64 n),.iface 64 (.pointer (some t))] w fun e w'=>e=.returned (.bool true)∧w'=((((w.alloc (.cells #[.pointer (some t)] 64)).alloc (.cells #[.pointer (some ⟨3,64,none⟩),.pointer (some ⟨w.heap.size,0,none⟩),.int .u64 150] 102)).alloc (.cells #[.pointer (some ⟨3,64,none⟩),.pointer (some ⟨w.heap.size,0,none⟩),.int .u64 150] 102)).alloc (.cells #[.int .i64 n] 36)).setCell t (.int .i64 n):=by
 have y:= @run_callFunc_extern Tryz.prog 56 _ (fun d=>ReflectliteValue.unpack (d.getD 0 (.tuple #[]))) Tryz.func56 (by kernel_rfl) (by kernel_rfl) (by kernel_rfl) (by kernel_rfl);have A:= @run_callFunc_extern Tryz.prog 57 _ (ReflectliteValue.methodAny (ReflectliteValue.valueError "reflectlite.Value.Type" 0) (fun t _ _ _=>ReflectliteType.toType t)) Tryz.func57 (by kernel_rfl) (by kernel_rfl) (by kernel_rfl) (by kernel_rfl);have B:= @run_callFunc_extern Tryz.prog 58 _ (ReflectliteValue.method (ReflectliteValue.valueError "reflectlite.Value.IsNil" 0) ReflectliteValue.isNil) Tryz.func58 (by kernel_rfl) (by kernel_rfl) (by kernel_rfl) (by kernel_rfl);have C:= @run_callFunc_extern Tryz.prog 199 _ (ReflectliteType.abiMethod fun t=>do pure (.int .u8 (<-Rtype.kind t))) Tryz.func199 (by kernel_rfl) (by kernel_rfl) (by kernel_rfl) (by kernel_rfl);have D:= @run_callFunc_extern Tryz.prog 211 _ (ReflectliteType.method ReflectliteType.elem) Tryz.func211 (by kernel_rfl) (by kernel_rfl) (by kernel_rfl) (by kernel_rfl);have E:= @run_callFunc_extern Tryz.prog 212 _ (ReflectliteType.relation "Implements" ReflectliteType.implements_) Tryz.func212 (by kernel_rfl) (by kernel_rfl) (by kernel_rfl) (by kernel_rfl);have F:= @run_callFunc_extern Tryz.prog 95 _ (ReflectliteType.typeOf) Tryz.func95 (by kernel_rfl) (by kernel_rfl) (by kernel_rfl) (by kernel_rfl);have G:= @run_callFunc_extern Tryz.prog 209 _ (ReflectliteType.relation "AssignableTo" ReflectliteType.assignableTo) Tryz.func209 (by kernel_rfl) (by kernel_rfl) (by kernel_rfl) (by kernel_rfl);have r:=mE;have p:=mD;have q:=iB;have o:=gW;have x:=sP;have v:=zU;have m:=yY;have l:=yW;have h:=yC;have k:=yO;have s:=wg ⟨w.heap.size,0,none⟩ t ((w.alloc (.cells #[.pointer (some t)] 64)).alloc (.cells #[.pointer (some ⟨3,64,none⟩),.pointer (some ⟨w.heap.size,0,none⟩),.int .u64 150] 102)) (by simp);have g:0<w.heap.size:=World.block_lt_of_cell? _ _ a;have j:((w.alloc (.cells #[.pointer (some t)] 64)).alloc (.cells #[.pointer (some ⟨3,64,none⟩),.pointer (some ⟨w.heap.size,0,none⟩),.int .u64 150] 102)).cell? ⟨0,0,none⟩=some (.iface 150 (.agg #[.pointer (some ⟨3,33,none⟩)])):=by
  rw[World.cell?_alloc_lt _ _ ⟨0,0,none⟩ (by simp<;>omega),World.cell?_alloc_lt _ _ ⟨0,0,none⟩ g];exact a
 have H:= @run_callFunc_extern Tryz.prog 96 _ (ReflectliteValue.method (ReflectliteValue.valueError "reflectlite.Value.Elem" 0) ReflectliteValue.elem) Tryz.func96 (by kernel_rfl) (by kernel_rfl) (by kernel_rfl) (by kernel_rfl);have z:= @run_callFunc_extern Tryz.prog 97 _ (ReflectliteValue.set) Tryz.func97 (by kernel_rfl) (by kernel_rfl) (by kernel_rfl) (by kernel_rfl);have u:=pt;have a1:=s4;have v1:=sO;have c:t.block<w.heap.size:=World.block_lt_of_cell? _ _ b;have i:=yE ⟨w.heap.size,0,none⟩ t (((w.alloc (.cells #[.pointer (some t)] 64)).alloc (.cells #[.pointer (some ⟨3,64,none⟩),.pointer (some ⟨w.heap.size,0,none⟩),.int .u64 150] 102)).alloc (.cells #[.pointer (some ⟨3,64,none⟩),.pointer (some ⟨w.heap.size,0,none⟩),.int .u64 150] 102)) (by rw[World.cell?_alloc_lt _ _ ⟨w.heap.size,0,none⟩ (by simp<;>omega)];simp);have st:=BV t ⟨w.heap.size+1+1+1,0,none⟩ n old ((((w.alloc (.cells #[.pointer (some t)] 64)).alloc (.cells #[.pointer (some ⟨3,64,none⟩),.pointer (some ⟨w.heap.size,0,none⟩),.int .u64 150] 102)).alloc (.cells #[.pointer (some ⟨3,64,none⟩),.pointer (some ⟨w.heap.size,0,none⟩),.int .u64 150] 102)).alloc (.cells #[.int .i64 n] 36))
  (by rw[World.cell?_alloc_at _ _ _ _ (by simp)];rfl)
  (by rw[World.cell?_alloc_lt _ _ t (by simp<;>omega),World.cell?_alloc_lt _ _ t (by simp<;>omega),World.cell?_alloc_lt _ _ t (by simp<;>omega),World.cell?_alloc_lt _ _ t c];exact b)
  (by rw[World.frozen?_alloc_old _ _ t (by simp<;>omega),World.frozen?_alloc_old _ _ t (by simp<;>omega),World.frozen?_alloc_old _ _ t (by simp<;>omega),World.frozen?_alloc_old _ _ t (Nat.ne_of_lt c)];exact f)
 go_enter Tryz.func23,Tryz.ntmps23
 go_wp2
 refine wp_loop_rounds 1 ?_;rw[rounds_succ]
 go_wp2
 go_ret
 exact⟨rfl,rfl⟩
def qp (w:World):Prop:=w.cell? ⟨0,0,none⟩=some (.iface 150 (.agg #[.pointer (some ⟨3,33,none⟩)]))
theorem qp.lt {w:World} (h:qp w):0<w.heap.size:=World.block_lt_of_cell? _ _ h
theorem qp.below {w w':World} (h:qp w) (a:Below w.heap.size w w'):qp w':=(a.cell (p:=⟨0,0,none⟩) h.lt).trans h
theorem qp.alloc {w:World} (h:qp w) (o:Obj):qp (w.alloc o):=(World.cell?_alloc_lt _ _ ⟨0,0,none⟩ h.lt).trans h
theorem bal {w w':World} (h:Below w.heap.size w w') (o:Obj):Below w.heap.size w (w'.alloc o):=h.alloc h.size o
theorem btr {w w1 w2:World} (h:Below w.heap.size w w1) (a:Below w1.heap.size w1 w2):Below w.heap.size w w2:=h.trans (a.mono h.size)
theorem xg (w:World):Calls Tryz.prog 8 #[.nilIface] w fun e w'=>e=.returned (.tuple #[.int .i64 0,.int .i64 (-1)])∧Below w.heap.size w w':=by
 go_enter Tryz.func8,Tryz.ntmps8
 go_wp2
 go_ret2
 exact⟨rfl,Below.refl _ _⟩
theorem sJ (n:Int) (w:World) (c:qp w):Calls Tryz.prog 8 #[.iface 36 (.int .i64 n)] w fun e w'=>e=.returned (.tuple #[.int .i64 n,.int .i64 (-1)])∧Below w.heap.size w w':=by
 have a:Hid (qp w):=c;clear c;go_enter Tryz.func8,Tryz.ntmps8
 go_wp2_with fail
 refine (sd n _ _ (a.alloc _)).mono ?_;rintro e w1 ⟨rfl,b⟩;go_wp2_with fail
 have d:qp w1:=(a.alloc _).below b;refine (sc n _ (.int .i64 0) _ (d.alloc _) (by simp) (by simp)).mono ?_;rintro e w2 ⟨rfl,rfl⟩;go_wp2_with fail
 go_ret2
 exact⟨rfl,bal (bal (bal (bal (bal (btr (bal (Below.refl _ _) _) b) _) _) _) _) _⟩
open Go.RowKit
theorem nV (k b l m r g:Int):KP.chk k b l m r g=
  if k<0∨8<k then 3 else if k=0 then (if b=0∧l=0∧m=0∧r=0∧g=0 then 0 else 2)
  else if ¬(1<=l∧l<=24∧0<=b∧b<=24 - l∧(k=1->0<=m∧m<=l)∧(k≠1->l=1∧m=0)) then 2
  else if r<0∨7<r then 4
  else if ¬(0<=g∧g<=65535∧(k≠7->k≠8->g=0)) then 2 else 0:=by
 have a:=KP.tI k b l m;have c:=KP.se k g;unfold KP.chk;simp only[<-a, <-c,Bool.not_eq_true]
theorem eI (v a:Int) (w:World):
  Calls Tryz.prog 33 #[.int .i64 v,.int .i64 a] w fun e w'=>e=.returned (.bool (decide (v<0∨a<v)))∧w=w':=by
 go_enter Tryz.func33,Tryz.ntmps33
 go_wp2
 all_goals
  go_ret
  exact⟨nE (by first|rfl|simp|(rw[Bool.eq_iff_iff];simp;omega)),rfl⟩
namespace Wd
open Go.RowKit Mem Bw Nums Mmu
def kv (s:Nat->Int):Array Value:=#[.int .i64 (s 0),.int .i64 (s 1),.int .i64 (s 2),.int .i64 (s 3),.int .i64 (s 4),.int .i64 (s 5)]
def kc (s:Nat->Int):Int:=KP.chk (s 0) (s 1) (s 2) (s 3) (s 4) (s 5)
def anB (x y:Int):Int:=bits .andNot .i64 x y
def cmB (f s:Nat->Int):Bool:=if f 0=1 then s 0 !=1&&decide (f 1<=s 1∧s 1<=f 1+f 3 - 1) else s 0==f 0&&s 1==f 1&&anB (s 4) (f 4)==0&&(f 5==0||s 5==f 5)
def up (p:PW):Nat->Int->Int
 |0,a=>a
 |n+1,a=>if fQ p a then up p n ((p.DZ.getD a.toNat (fun _=> -1)) 6) else a
def CM (p:PW) (a:Int):Bool:=fQ p (up p p.DZ.length a)
theorem Cg {p:PW} {a:Int} (h:fQ p a=false):∀n,up p n a=a
 |0=>rfl
 |n+1=>by unfold up;rw[h];rfl
theorem gg {p:PW} {a:Int} (h:fQ p a=true):∃j:Nat,a=j∧j<p.DZ.length:=by
 have b:=ay h;exact⟨a.toNat,oA,oA⟩
theorem Ch {p:PW} {j n:Nat} (a:j<p.DZ.length):up p (n+1) j=up p n (p.DZ[j] 6):=by
 have h:fQ p (j:Int)=true:=aD oA;rw[up,h,af rfl,ag,aa,ac a];rfl
def opB (p:PW) (s:Nat->Int):Bool:=kc s==0&&decide (s 1+s 2<=(p.kinds.length:Int))&&(s 0==1||isB p (s 1) (s 0))
def vS (p:PW) (s:Nat->Int):Nat->Int:=p.DZ.getD (s 6).toNat fun _=> -1
def mdB (p:PW) (s:Nat->Int):Bool:=s 6== -1||(fQ p (s 6)&&(kc (vS p s)==0&&cmB (vS p s) s))
theorem iL {W:World} {b o:Nat} {cs:List Value} {v:Value} (h:W.rangeAt b o cs) (a:cs[0]? =some v):W.cell? ⟨b,o,none⟩=some v:=by
 have:=eo h a
 rwa [bG] at this
def atV (p:PW) (t:Int):Int:=match p.DY[t.toNat]? with|some f=>f 14|none=> -1
def wtB (p:PW) (t:Int):Bool:=match p.DY[t.toNat]? with|some f=>f 9==4|none=>false
def tB (p:PW) (n z0 t:Int):Bool:= !(isB p t 6&&atV p t==n&&wtB p t==wtB p z0)
def hdB (k x:Int) (n:Nat):Bool:=(decide (0<n)&&k !=8&&k !=7)||(x !=0&&(k !=8||decide (0<n)|| !wB x))
def blB (p:PW) (n k x:Int) (zs:List Int):Bool:=hdB k x zs.length||zs.any (tB p n (zs.getD 0 0))
theorem Dx {p:PW} {n a t:Int} (h:tB p n a t=false):isB p t 6=true:=by
 unfold tB at h;simp only[cq,al] at h;exact h.1.1
def ed (a b z:Int):Bool:=decide (a<=z∧z<=b)
def DK (f:Nat->Int):Bool:=(List.range 8).all fun k=>wB (f k)
def nfB (p:PW) (f:Nat->Int):Bool:=DK f&&wB (f 8)&&wB (f 15)&&wB (f 16)&&ed 0 6 (f 9)&&ed 0 3 (f 10)&&ed 0 ((p.D6.length:Int) - 1) (f 18)&&ed 0 3 (f 19)
theorem zD {f:Nat->Int} (h:∀k,k<8->wB (f k)=true):DK f=true:=aN.2 fun k hk=>h k (List.mem_range.1 hk)
def ffB (p:PW) (f:Nat->Int):Bool:=fB p (f 11) 5&&fB p (f 12) 4&&fB p (f 13) 7&&fB p (f 17) 6
def ow (n:Int) (z:Nat->Int):Nat:=if z 17=n then 1 else 0
def stV (p:PW) (t:Int):Int:=match p.DY[t.toNat]? with|some f=>f 9|none=> -1
theorem xY {p:PW} {j:Nat} (h:j<p.DY.length):stV p j=p.DY[j] 9:=by
 unfold stV;rw[ag,ac h]
def owB (p:PW) (f:Nat->Int):Bool:=f 17== -1||(stV p (f 17)==5&&f 9 !=4)
def dbB (p:PW) (n:Int) (f:Nat->Int):Bool:=owB p f&&(if f 9=5 then ((eZ (ow n) p.DY:Nat):Int)==1 else ((eZ (ow n) p.DY:Nat):Int)==0)
def pl (s:Int):Int:=if s=2∨s=3∨s=4 then 7 else if s=6 then 8 else 0
def rrB (p:PW) (n:Int) (f:Nat->Int):Bool:=if f 9=1 then ((cn n p.D6+cna n p.ready:Nat):Int)==1 else ((cn n p.D6+cna n p.ready:Nat):Int)==0
def zkB (s:Nat->Int):Bool:=decide (s 0=0∧s 1=0∧s 2=0∧s 3=0∧s 4=0∧s 5=0)
def bsB (p:PW) (kd:Int) (s:Nat->Int):Bool:=if zkB s then s 6 != -1 else !(kd==5&&opB p s&&mdB p s&& !CM p (s 6))
def srB (p:PW) (n:Int) (f:Nat->Int):Bool:=if pl (f 9)=0 then f 14== -1&&((cna n p.lines:Nat):Int)==0 else isB p (f 14) (pl (f 9))&&((cna n p.lines:Nat):Int)==1&&((cn n (p.lines.getD (f 14).toNat []):Nat):Int)==1
def yp (f:Nat->Int):Bool:=(List.range 20).all fun k=>f k==bl k
theorem nS {f:Nat->Int}:yp f=true↔∀k,k<20->f k=bl k:=by
 unfold yp;rw[aN];constructor
 ·intro h k hk;simpa using h k (List.mem_range.2 hk)
 ·intro h k hk;simpa using h k (List.mem_range.1 hk)
def btB (p:PW) (n kind:Int) (f:Nat->Int):Bool:=if kind=6 then !(nfB p f&&ffB p f&&dbB p n f&&srB p n f&&rrB p n f) else !yp f
theorem zo {p:PW} {f:Nat->Int} (c:p.DY.length=p.kinds.length) (h:ffB p f=true):f 17= -1∨∃j:Nat,j<p.DY.length∧f 17=j:=by
 unfold ffB at h;rw[al] at h;have a:=h.2;unfold fB at a;rw[bT] at a;rcases a with a|a
 ·exact .inl (by simpa using a)
 ·obtain⟨j,e,b⟩:=tX a;exact .inr ⟨j,oA,e⟩
def emB (p:PW) (l:List Ent) (j:Nat) (e:Ent):Bool:=(l.take j).any (pg e.1 e.2.1)|| !eG p e
def bmB (p:PW) (l:List Ent):Bool:=decide (4<l.length)||(List.range l.length).any fun j=>match l[j]? with|some e=>emB p l j e|none=>false
theorem vJ {p:PW} {l:List Ent} {j:Nat} {e:Ent} (h:emB p l j e=false):eG p e=true∧(l.take j).any (pg e.1 e.2.1)=false:=by
  unfold emB at h;rw[dU] at h;exact⟨by simpa using h.2,h.1⟩
def lk {α:Type} (bad:Nat->α->Bool) (l:List α):Option Nat:=(List.range l.length).find? fun k=>match l[k]? with|some x=>bad k x|none=>false
theorem ug {α:Type} {a:Nat->α->Bool} {l:List α} (h:∀k (hk:k<l.length),a k l[k]=false):lk a l=none:=by
 unfold lk;rw[List.find?_eq_none];intro k hk;have b:=List.mem_range.1 hk;rw[ac b];simp[h k b]
theorem _root_.Go.Proofs.YtaejnmmpddbbjaaGreatDoor.ew:type_of% @ug:= @ug
theorem tK {α:Type} {l:List α} {k:Nat} {d:α} (h:k<l.length):l.getD k d=l[k]:=by
 rw[aa,ac h];rfl
def pN:List (Int×Option Nat)->Int×Int
 |[]=>(0, -1)
 |(e,some k)::_=>(e,k)
 |(_,none)::r=>pN r
def A8 (p:PW):List (Int×Option Nat):=[(1,lk (fun _ x=>nwB x) p.Eb),(3,lk (fun _ x=>nkB x) p.kinds),(2,lk (fun _ x=>nd x) p.Ee),(8,lk (fun k s=>bsB p (p.kinds.getD (k/16) 0) s) p.DZ),(8,lk (fun k x=>bfB p k x) p.kinds),(8,lk (fun k f=>btB p k (p.kinds.getD k 0) f) p.DY),(8,lk (fun k l=>blB p k (p.kinds.getD k 0) (p.bits.getD k 0) l) p.lines),(8,lk (fun k t=>bcB p k t) p.D6),(8,lk (fun k l=>brB p k l) p.ready),(9,lk (fun k x=>beB p (p.kinds.getD (k/16) 0) x) p.Eb),(9,lk (fun _ l=>bmB p l) p.D9)]
def wmA (p:PW):Int×Int:=if lfB p&&ed 0 1000000 p.time then pN (A8 p) else (2, -1)
theorem CZ {p:PW} {g:Nat->Int} (h:∀k (hk:k<p.DZ.length),bsB p (g k) p.DZ[k]=false):∀s∈p.DZ,KB s:=fun s c=>by
 obtain⟨k,hk,rfl⟩:=List.mem_iff_getElem.1 c;have a:=h k hk;generalize p.DZ[k]=s at a ⊢;have b:kc s=0:=by
  unfold bsB at a;split at a
  ·rename_i hz;have:=ay hz;unfold kc;rw[this.1];exact KP.CG this.2
  ·unfold opB at a;simp only[cq,al,bh] at a;exact a.1.1.2.1.1
 obtain⟨-, -,b0,b1,l0,l1,m0,m1, -, -, -, -⟩:=KP.mV b;refine⟨b0,oA,l0,oA,m0,oA,fun d=>?_⟩;have h:KP.chk (s 0) (s 1) (s 2) (s 3) (s 4) (s 5)=0:=b;rw[nV] at h;split at h
 ·omega
 split at h
 ·omega
 split at h
 ·omega
 ·omega
