/- Uah -/
import Derived.Deep.RegionHeld3
import Derived.Laws.AppendOwnNone
import Derived.Test.YtnccmdndkmmhcaaGreatDoorUag
set_option maxRecDepth 100000
set_option maxHeartbeats 16000000
namespace Go.Proofs.YtnccmdndkmmhcaaGreatDoor
namespace Wd
open Go.RowKit Mem Bw Nums Mmu
theorem js {w:World} {lo hi O I s n:Nat} {v:Value} {a:Nat->Nat×List Value} (h:iC w lo hi O I s n v a):∃q,v=.slice q n n:=by
 obtain⟨g,us,m,b,_⟩:=h;exact⟨_,b⟩
theorem lO {w w':World} {b o n:Nat} (h:w.there b o n) (c:Below w.heap.size w w'):w'.there b o n:=fun j e=>by
 obtain⟨a,d⟩:=h j e;obtain⟨u,f⟩:=Option.isSome_iff_exists.1 a;have hl:=aj _ _ f;exact⟨by rw[c.cell hl];exact a,by rw[c.frozen hl];exact d⟩
theorem _root_.Go.Proofs.YtnccmdndkmmhcaaGreatDoor.cw:type_of% @lO:= @lO
def vv (l:List Value) (k:Nat):Value:=l.getD k undef
def ll (l:List Nat) (k:Nat):Nat:=l.getD k 0
theorem AD (V:Nat->Value) (p:PW) (w:World) (hv:eu w V p) (hp:p.Fits):
  Calls Tryz.prog 154 #[.agg (de V)] w fun r w'=>∃V' L,r=.returned (.agg (de V'))∧gj w' L V' p∧w.heap.size<=L 0∧L 10<=w'.heap.size∧Below w.heap.size w w':=by
 have RG:=hid (lQ w V 28);have B0:=hid (bal (bal (af w.heap.size w) (.cells (de V) 28)) (.cells zW 28));have aa:=hid (bf RG (bal (af _ (w.alloc (.cells (de V) 28))) (.cells zW 28)));have T0:=hid (aP (w.alloc (.cells (de V) 28)) zW 28 (w.heap.size+1) 11 oS oD);have S0:=hid (show ((w.alloc (.cells (de V) 28)).alloc (.cells zW 28)).heap.size=w.heap.size+2 by simp);have i:=hid hp;have HV:=hid hv;have ac:=hv.time;clear hv hp RG;go_enter Tryz.func154,Tryz.ntmps154
 go_wp2_with fail
 generalize World.alloc _ _=f at*;have BD:Hid (Below f.heap.size f f.drew):=hid (aD f 1);have l:=hid (fun W (b:Below f.heap.size f W)=>bf aa b);have m:=hid (fun W (b:Below f.heap.size f W)=>HV.below (btr B0 b));clear aa HV;refine wp_region_held_drew (S:=fun W=>W.rangeAt w.heap.size 0 (de V).toList) oK (l.out _ BD) (fun a=>?_);have a:=hid a;refine tk 0 (.pointer (some ⟨w.heap.size,0,none⟩)) rfl a ?_;simp only[jj];refine tg 1 (V 0) rfl (Or.inl ⟨oR,fun W h=>by have d:W.cell? ⟨w.heap.size,0,none⟩=some (V 0):=ai h rfl;clear h;go_simp⟩) a ?_;simp only[jj];refine tk 3 (.pointer (some ⟨w.heap.size,1,none⟩)) rfl a ?_;simp only[jj];refine tg 4 (V 1) rfl (Or.inl ⟨oR,fun W h=>by have d:W.cell? ⟨w.heap.size,1,none⟩=some (V 1):=ai h rfl;clear h;go_simp⟩) a ?_;simp only[jj];refine tk 6 (.pointer (some ⟨w.heap.size,2,none⟩)) rfl a ?_;simp only[jj];refine tg 7 (V 2) rfl (Or.inl ⟨oR,fun W h=>by have d:W.cell? ⟨w.heap.size,2,none⟩=some (V 2):=ai h rfl;clear h;go_simp⟩) a ?_;simp only[jj];refine tk 9 (.pointer (some ⟨w.heap.size,3,none⟩)) rfl a ?_;simp only[jj];refine tg 10 (V 3) rfl (Or.inl ⟨oR,fun W h=>by have d:W.cell? ⟨w.heap.size,3,none⟩=some (V 3):=ai h rfl;clear h;go_simp⟩) a ?_;simp only[jj];refine tk 12 (.pointer (some ⟨w.heap.size,4,none⟩)) rfl a ?_;simp only[jj];refine tg 13 (V 4) rfl (Or.inl ⟨oR,fun W h=>by have d:W.cell? ⟨w.heap.size,4,none⟩=some (V 4):=ai h rfl;clear h;go_simp⟩) a ?_;simp only[jj];refine tk 15 (.pointer (some ⟨w.heap.size,5,none⟩)) rfl a ?_;simp only[jj];refine tg 16 (V 5) rfl (Or.inl ⟨oR,fun W h=>by have d:W.cell? ⟨w.heap.size,5,none⟩=some (V 5):=ai h rfl;clear h;go_simp⟩) a ?_;simp only[jj];refine tk 18 (.pointer (some ⟨w.heap.size,6,none⟩)) rfl a ?_;simp only[jj];refine tg 19 (V 6) rfl (Or.inl ⟨oR,fun W h=>by have d:W.cell? ⟨w.heap.size,6,none⟩=some (V 6):=ai h rfl;clear h;go_simp⟩) a ?_;simp only[jj];refine tk 21 (.pointer (some ⟨w.heap.size,7,none⟩)) rfl a ?_;simp only[jj];refine tg 22 (V 7) rfl (Or.inl ⟨oR,fun W h=>by have d:W.cell? ⟨w.heap.size,7,none⟩=some (V 7):=ai h rfl;clear h;go_simp⟩) a ?_;simp only[jj];refine tk 24 (.pointer (some ⟨w.heap.size,8,none⟩)) rfl a ?_;simp only[jj];refine tg 25 (V 8) rfl (Or.inl ⟨oR,fun W h=>by have d:W.cell? ⟨w.heap.size,8,none⟩=some (V 8):=ai h rfl;clear h;go_simp⟩) a ?_;simp only[jj];refine tk 27 (.pointer (some ⟨w.heap.size,9,none⟩)) rfl a ?_;simp only[jj];refine tg 28 (V 9) rfl (Or.inl ⟨oR,fun W h=>by have d:W.cell? ⟨w.heap.size,9,none⟩=some (V 9):=ai h rfl;clear h;go_simp⟩) a ?_;simp only[jj];refine tk 30 (.pointer (some ⟨w.heap.size,10,none⟩)) rfl a ?_;simp only[jj];refine tg 31 (.int .i64 p.time) rfl (Or.inl ⟨oR,fun W h=>by have d:W.cell? ⟨w.heap.size,10,none⟩=some (V 10):=ai h rfl;rw[ac] at d;clear h;go_simp⟩) a ?_;simp only[jj];refine wpAnyH_ready (rs:=[2]) oK oS (AllReadyH.cons rfl (fun K c=>?_) AllReadyH.nil);go_simp
 refine (hD (V 0) p.IL _ (m.out _ BD).IL i.IL).mono ?_;rintro r u1 ⟨v0,rfl,h0,b⟩;obtain⟨B,q,rfl⟩:=eJ h0;have X:=hid (btr BD b);have O0:=hid h0;have N0:=hid b;clear b h0;go_wp2_with fail
 refine c _ _ (l.out _ X) (fun a=>?_);have ad:=hid a;clear c K a
 try simp only[Act.put,jD,jE,jF]
 refine wpAnyH_ready (rs:=[5]) oK oS (AllReadyH.cons rfl (fun K c=>?_) AllReadyH.nil);go_simp
 refine (hD (V 1) p.kinds _ (m.out _ X).kinds i.kinds).mono ?_;rintro r u2 ⟨v1,rfl,h1,b⟩;obtain⟨C,s,rfl⟩:=eJ h1;have Y:=hid (btr X b);have O1:=hid h1;have N1:=hid b;clear b h1;go_wp2_with fail
 refine c _ _ (l.out _ Y) (fun a=>?_);have ag:=hid a;clear c K a
 try simp only[Act.put,jD,jE,jF]
 refine wpAnyH_ready (rs:=[8]) oK oS (AllReadyH.cons rfl (fun K c=>?_) AllReadyH.nil);go_simp
 refine (sh (V 2) p.IH _ (m.out _ Y).IH i.IH).mono ?_;rintro r u3 ⟨v2,rfl,h2,b⟩;obtain⟨D,t,rfl⟩:=eJ h2;have Z:=hid (btr Y b);have O2:=hid h2;have N2:=hid b;clear b h2;go_wp2_with fail
 refine c _ _ (l.out _ Z) (fun a=>?_);have ah:=hid a;clear c K a
 try simp only[Act.put,jD,jE,jF]
 refine wpAnyH_ready (rs:=[11]) oK oS (AllReadyH.cons rfl (fun K c=>?_) AllReadyH.nil);go_simp
 refine (si (V 3) p.II _ (m.out _ Z).II i.II).mono ?_;rintro r u4 ⟨v3,rfl,d,b⟩;obtain⟨E,u,rfl⟩:=eJ d;have A4:=hid (btr Z b);have O3:=hid d;have U:=hid b;clear b d;go_wp2_with fail
 refine c _ _ (l.out _ A4) (fun a=>?_);have aj:=hid a;clear c K a
 try simp only[Act.put,jD,jE,jF]
 refine wpAnyH_ready (rs:=[14]) oK oS (AllReadyH.cons rfl (fun K c=>?_) AllReadyH.nil);go_simp
 refine (rV (V 4) p.lines _ (m.out _ A4).lines i.lines i.line).mono ?_;rintro r u5 ⟨v4,rfl,h4,b⟩;obtain⟨F,rfl⟩:=js h4;have A5:=hid (btr A4 b);have O4:=hid h4;have Q:=hid b;clear b h4;go_wp2_with fail
 refine c _ _ (l.out _ A5) (fun a=>?_);have al:=hid a;clear c K a
 try simp only[Act.put,jD,jE,jF]
 refine wpAnyH_ready (rs:=[17]) oK oS (AllReadyH.cons rfl (fun K c=>?_) AllReadyH.nil);go_simp
 refine (hD (V 5) p.bits _ (m.out _ A5).bits i.bits).mono ?_;rintro r u6 ⟨v5,rfl,h5,b⟩;obtain⟨G,y,rfl⟩:=eJ h5;have A6:=hid (btr A5 b);have O5:=hid h5;have P:=hid b;clear b h5;go_wp2_with fail
 refine c _ _ (l.out _ A6) (fun a=>?_);have am:=hid a;clear c K a
 try simp only[Act.put,jD,jE,jF]
 refine wpAnyH_ready (rs:=[20]) oK oS (AllReadyH.cons rfl (fun K c=>?_) AllReadyH.nil);go_simp
 refine (hD (V 6) p.IJ _ (m.out _ A6).IJ i.IJ).mono ?_;rintro r u7 ⟨v6,rfl,h6,b⟩;obtain⟨H,z,rfl⟩:=eJ h6;have A7:=hid (btr A6 b);have O6:=hid h6;have O:=hid b;clear b h6;go_wp2_with fail
 refine c _ _ (l.out _ A7) (fun a=>?_);have an:=hid a;clear c K a
 try simp only[Act.put,jD,jE,jF]
 refine wpAnyH_ready (rs:=[23]) oK oS (AllReadyH.cons rfl (fun K c=>?_) AllReadyH.nil);go_simp
 refine (rV (V 7) p.ready _ (m.out _ A7).ready i.ready i.next).mono ?_;rintro r u8 ⟨v7,rfl,h7,b⟩;obtain⟨I,rfl⟩:=js h7;have A8:=hid (btr A7 b);have O7:=hid h7;have N:=hid b;clear b h7;go_wp2_with fail
 refine c _ _ (l.out _ A8) (fun a=>?_);have ao:=hid a;clear c K a
 try simp only[Act.put,jD,jE,jF]
 refine wpAnyH_ready (rs:=[26]) oK oS (AllReadyH.cons rfl (fun K c=>?_) AllReadyH.nil);go_simp
 refine (yI (V 8) p.IK _ (m.out _ A8).IK i.IK).mono ?_;rintro r u9 ⟨v8,rfl,h8,b⟩;obtain⟨J,rfl⟩:=js h8;have A9:=hid (btr A8 b);have O8:=hid h8;have o:=hid b;clear b h8;go_wp2_with fail
 refine c _ _ (l.out _ A9) (fun a=>?_);have ap:=hid a;clear c K a
 try simp only[Act.put,jD,jE,jF]
 refine wpAnyH_ready (rs:=[29]) oK oS (AllReadyH.cons rfl (fun K c=>?_) AllReadyH.nil);go_simp
 refine (hD (V 9) p.IQ _ (m.out _ A9).IQ i.IQ).mono ?_;rintro r R ⟨v9,rfl,h9,b⟩;obtain⟨M,A,rfl⟩:=eJ h9;have T:=hid (btr A9 b);have O9:=hid h9;have n:=hid b;clear b h9;go_wp2_with fail
 refine c _ _ (l.out _ T) (fun a=>?_);have ab:=hid a;clear c K a
 try simp only[Act.put,jD,jE,jF]
 refine tk 32 (.agg #[.slice B p.IL.length q,.slice C p.kinds.length s,.slice D p.IH.length t,.slice E p.II.length u,.slice F p.lines.length p.lines.length,.slice G p.bits.length y,.slice H p.IJ.length z,.slice I p.ready.length p.ready.length,.slice J p.IK.length p.IK.length,.slice M p.IQ.length A,.int .i64 p.time]) rfl ab ?_;simp only[jj];have TH:=hid (cw T0 T);have RX:=hid (World.rangeAt_setCells_same R (w.heap.size+1) 0 [.slice B p.IL.length q,.slice C p.kinds.length s,.slice D p.IH.length t,.slice E p.II.length u,.slice F p.lines.length p.lines.length,.slice G p.bits.length y,.slice H p.IJ.length z,.slice I p.ready.length p.ready.length,.slice J p.IK.length p.IK.length,.slice M p.IQ.length A,.int .i64 p.time] TH.out);have BX:=hid (bT (btr B0 T) (show w.heap.size<=w.heap.size+1 by omega) [.slice B p.IL.length q,.slice C p.kinds.length s,.slice D p.IH.length t,.slice E p.II.length u,.slice F p.lines.length p.lines.length,.slice G p.bits.length y,.slice H p.IJ.length z,.slice I p.ready.length p.ready.length,.slice J p.IK.length p.IK.length,.slice M p.IQ.length A,.int .i64 p.time] 0);refine wpAnyH_ready (rs:=[33]) oK oS (AllReadyH.cons rfl (fun K c=>?_) AllReadyH.nil);refine wp_store_mid 28 _ _ rfl (w.heap.size+1) 0 #[.slice B p.IL.length q,.slice C p.kinds.length s,.slice D p.IH.length t,.slice E p.II.length u,.slice F p.lines.length p.lines.length,.slice G p.bits.length y,.slice H p.IJ.length z,.slice I p.ready.length p.ready.length,.slice J p.IK.length p.IK.length,.slice M p.IQ.length A,.int .i64 p.time] rfl rfl TH fA (by simp[Value.oneCell']) ?_;refine c _ _ (fun k v hk=>by
  rw[cH (w.heap.size+1) [.slice B p.IL.length q,.slice C p.kinds.length s,.slice D p.IH.length t,.slice E p.II.length u,.slice F p.lines.length p.lines.length,.slice G p.bits.length y,.slice H p.IJ.length z,.slice I p.ready.length p.ready.length,.slice J p.IK.length p.IK.length,.slice M p.IQ.length A,.int .i64 p.time] 0 R ⟨w.heap.size,0+k,none⟩ (fun e _=>by simp at e)];exact l _ T k v hk) (fun ae=>?_)
 clear c K ae;refine dw oK ?_ _;clear a ad ag ah aj al am an ao ap ab;go_wp2_with fail
 refine ar (v:=.agg (de (vv [.slice B p.IL.length q,.slice C p.kinds.length s,.slice D p.IH.length t,.slice E p.II.length u,.slice F p.lines.length p.lines.length,.slice G p.bits.length y,.slice H p.IJ.length z,.slice I p.ready.length p.ready.length,.slice J p.IK.length p.IK.length,.slice M p.IQ.length A,.int .i64 p.time]))) (gh rfl rfl (run_loadVar_mid _ (w.heap.size+1) 0 28 [.slice B p.IL.length q,.slice C p.kinds.length s,.slice D p.IH.length t,.slice E p.II.length u,.slice F p.lines.length p.lines.length,.slice G p.bits.length y,.slice H p.IJ.length z,.slice I p.ready.length p.ready.length,.slice J p.IK.length p.IK.length,.slice M p.IQ.length A,.int .i64 p.time] _ RX Tryz.underlying28 rfl fA)) rfl ⟨vv [.slice B p.IL.length q,.slice C p.kinds.length s,.slice D p.IH.length t,.slice E p.II.length u,.slice F p.lines.length p.lines.length,.slice G p.bits.length y,.slice H p.IJ.length z,.slice I p.ready.length p.ready.length,.slice J p.IK.length p.IK.length,.slice M p.IQ.length A,.int .i64 p.time],ll [f.heap.size,u1.heap.size,u2.heap.size,u3.heap.size,u4.heap.size,u5.heap.size,u6.heap.size,u7.heap.size,u8.heap.size,u9.heap.size,R.heap.size],rfl,?_,?_,?_,BX.out⟩
 ·refine gj.I6 ?_ (by show w.heap.size+1<f.heap.size;rw[S0.out];omega) [.slice B p.IL.length q,.slice C p.kinds.length s,.slice D p.IH.length t,.slice E p.II.length u,.slice F p.lines.length p.lines.length,.slice G p.bits.length y,.slice H p.IJ.length z,.slice I p.ready.length p.ready.length,.slice J p.IK.length p.IK.length,.slice M p.IQ.length A,.int .i64 p.time] 0;have d0:f.drew.heap.size=f.heap.size:=rfl;have w0:=bU (bU (bU (bU (bU (bU (bU (bU (bU ((show InO u1 _ _ _ _ _ (p.IL.length,dU p.IL) from⟨O0.out,fun x g=>(O0.lt x g).2⟩)) N1) N2) U) Q) P) O) N) o) n;have w1:=bU (bU (bU (bU (bU (bU (bU (bU ((show InO u2 _ _ _ _ _ (p.kinds.length,dU p.kinds) from⟨O1.out,fun x g=>(O1.lt x g).2⟩)) N2) U) Q) P) O) N) o) n;have w2:=bU (bU (bU (bU (bU (bU (bU ((show InO u3 _ _ _ _ _ (p.IH.length,eX 7 p.IH) from⟨O2.out,fun x g=>(O2.lt x g).2⟩)) U) Q) P) O) N) o) n;have w3:=bU (bU (bU (bU (bU (bU ((show InO u4 _ _ _ _ _ (p.II.length,eX 20 p.II) from⟨O3.out,fun x g=>(O3.lt x g).2⟩)) Q) P) O) N) o) n;have w4:=iC.below (iC.below (iC.below (iC.below (iC.below (O4.out) P) O) N) o) n;have w5:=bU (bU (bU (bU ((show InO u6 _ _ _ _ _ (p.bits.length,dU p.bits) from⟨O5.out,fun x g=>(O5.lt x g).2⟩)) O) N) o) n;have w6:=bU (bU (bU ((show InO u7 _ _ _ _ _ (p.IJ.length,dU p.IJ) from⟨O6.out,fun x g=>(O6.lt x g).2⟩)) N) o) n;have w7:=iC.below (iC.below (O7.out) o) n;have w8:=iC.below (O8.out) n;have w9:=(show InO R _ _ _ _ _ (p.IQ.length,dU p.IQ) from⟨O9.out,fun x g=>(O9.lt x g).2⟩);exact⟨fun j hj=>by
   have s1:=N0.size;have s2:=N1.size;have s3:=N2.size;have s4:=U.size;have s5:=Q.size;have s6:=P.size;have s7:=O.size;have s8:=N.size;have s9:=o.size;have au:=n.size;have aq:j=0∨j=1∨j=2∨j=3∨j=4∨j=5∨j=6∨j=7∨j=8∨j=9:=oA;rcases aq with rfl|rfl|rfl|rfl|rfl|rfl|rfl|rfl|rfl|rfl
   ·exact s1
   ·exact s2
   ·exact s3
   ·exact s4
   ·exact s5
   ·exact s6
   ·exact s7
   ·exact s8
   ·exact s9
   ·exact au,w0,w1,w2,w3,w4,w5,w6,w7,w8,w9,rfl⟩
 ·show w.heap.size<=f.heap.size
  rw[S0.out];omega
 ·show R.heap.size<=_
  exact Nat.le_of_eq (fu _ _ _ _).symm
theorem rF {P:Program} {w:World} (base:Nat) (t f e:TypeId) (i:TypeInfo) (size c:Nat) (a:P.underlying t=some (.slice e)) (hi:P.info? e=some i) (v:Value) (n:Nat) (xs:List Value) (d:w.ownsRow base e size v n xs):
  (Builtin.append_ #[t,t] f #[v,.slice none 0 c]).run P w=.ok v w:=by
 rcases d.2 with ⟨rfl,rfl⟩|⟨g,cap,h,rfl,_,_,b,_⟩
 ·simp[Builtin.append_,run_underlying a,sizeOf,typeInfo,hi,Builtin.lenOf,Builtin.firstCells]
 ·simp[Builtin.append_,run_underlying a,sizeOf,typeInfo,hi,Builtin.lenOf,Builtin.firstCells,b,storeCells]
theorem yn {P:Program} {w:World} (t g e:TypeId) (i:TypeInfo) (z:Value) (size bytes:Nat) (l:P.underlying t=some (.slice e)) (hi:P.info? e=some i) (F:i.zero=some z) (D:i.size=size) (r:i.bytes=bytes) (G:z.cells.size=size) (E:0<size)
  (base:Nat) (v:Value) (f:w.ownsRow base e size v 0 []) (q:Option Addr) (m c:Nat) (b:List Value) (B:0<m->q.isSome=true) (hl:b.length=m*size) (A:∀a,q=some a->∀j u,b[j]? =some u->w.cell? (a.add j)=some u) (n:∀u∈b,u.oneCell'=true)
  (H:m<=maxLen) (s:m*bytes<=140737488355328) (p:base<=w.heap.size):
  ∃d w',(Builtin.append_ #[t,t] g #[v,.slice q m c]).run P w=.ok d w'∧w'.ownsRow base e size d m b∧w.grownBy w' v.ownBlock:=by
 cases q with
 |none=>
  have x:m=0:=by
   rcases Nat.eq_zero_or_pos m with h|h
   ·exact h
   ·have:=B h
    cases this
  subst x;have y:=List.length_eq_zero_iff.1 (by rw[hl,Nat.zero_mul]);subst y;exact⟨v,w,rF base t g e i size c l hi v 0 [] f,f,⟨rfl,rfl,rfl,aq _,fun _ _ _=>rfl⟩⟩
 |some a=>
  obtain⟨d,w',C,k,o,_⟩:=run_append_own (P:=P) w base t g e i z size bytes l hi F D r G E v 0 [] f a m c b hl (A a rfl) n oA (by rw[aC];exact s) p;rw[aC,eC] at k;exact⟨d,w',C,k,o⟩
theorem j5 {P:Program} (w:World) (t l e:TypeId) (z:Value) (size bytes:Nat) (C:P.underlying t=some (.slice e)) (s:(P.info? e).map (fun i=>(i.zero,i.size,i.bytes))=some (some z,size,bytes)) (F:z.cells.size=size) (B:0<size)
  (q:Option Addr) (m c:Nat) (a:List Value) (x:0<m->q.isSome=true) (hl:a.length=m*size) (v:∀g,q=some g->∀j u,a[j]? =some u->(w.alloc (.cells #[] e)).cell? (g.add j)=some u) (n:∀u∈a,u.oneCell'=true)
  (p:m<=1000) (r:bytes<=1000):
  ∃d b w',(Builtin.append_ #[t,t] l #[.slice (some ⟨w.heap.size,0,none⟩) 0 0,.slice q m c]).run P (w.alloc (.cells #[] e))=.ok (.slice d m b) w'∧w'.ownsRow w.heap.size e size (.slice d m b) m a∧Below w.heap.size w w':=by
 obtain⟨i,hi,E,A,D⟩:=fj s;have f:=dy (base:=w.heap.size) (e:=e) (size:=size) w #[] 0 (aq _) (bP _) oS;have G:=Nat.mul_le_mul p r;obtain⟨H,w',y,h,o⟩:=yn t l e i z size bytes C hi E A D F B w.heap.size _ f q m c a x hl v n (by unfold maxLen;omega) oA oS;obtain⟨d,b,rfl⟩:=eJ h;exact⟨d,b,w',y,h,(bal (af w.heap.size w) (.cells #[] e)).grown o oS (fun k hk=>(f.lt k hk).1)⟩
theorem fD {P:Program} {w w':World} {ops:Array Oper} {rest:List Oper} {o:Oper} {a:Act} {Q:Exit->Act->World->Prop} (d:o.guard=none) (s x:Operand) (t:TypeId)
  (e:o.op=.call {callee:=.builtin .append,args:=#[s,x],argTypes:=#[t,t]}) (v u b:Value) (g:a.eval s=v) (i:a.eval x=u) (f:(Builtin.append_ #[t,t] o.type #[v,u]).run P w=.ok b w')
  (h:wpList P ops Q rest (a.put o.dst b) w'):wpList P ops Q (o::rest) a w:=by
 refine wpList_plain d fun K c=>?_;unfold Oper.wp;simp[execOp,e,resolve,invoke,builtin,g,i,f,Result.andThen];exact c _ _ h
theorem pn {w W:World} {q:Option Addr} {b off:Nat} {zs:List Int} (d:0<zs.length->q=some ⟨b,off,none⟩) (i:fW w b off zs) (g:Below w.heap.size w W):(0<zs.length->q.isSome=true)∧∀a,q=some a->∀j u,(dU zs)[j]? =some u->W.cell? (a.add j)=some u:=by
 refine⟨fun h=>by rw[d h];rfl,fun a e j u c=>?_⟩;by_cases f:0<zs.length
 ·rw[d f] at e
  cases e
  exact ints_at (i.below g) j u c
 ·have:zs=[]:=List.length_eq_zero_iff.1 oA;rw[this] at c;simp[dU] at c
theorem mz (v:Value) (ls:List (List Int)) (w:World) (hv:gi w v ls) (hl:ls.length<=1000) (N:∀l∈ls,l.length<=1000):
  Calls Tryz.prog 230 #[v] w fun r w'=>∃u,r=.returned u∧iC w' w.heap.size w'.heap.size 22 3 1 ls.length u (ci ls)∧Below w.heap.size w w':=by
 obtain⟨q,b,off,cap,rfl,O,V⟩:=hv;have H:=hid O;have K:=hid V;have J:=hid N;have ad:(ls.length:Int)<=1000:=oA;have mk:=gG Tryz.underlying25 zH oD oD ls.length hl w;rw[iT] at mk;have t:=hid (ml.start w ls.length 22 3 1 (ci ls) (by unfold maxLen;omega) _ rfl);have n:=hid (bal (af w.heap.size w) (.cells (Array.replicate ls.length (Value.slice none 0 0)) 22));go_enter Tryz.func230,Tryz.ntmps230
 go_wp2_with fail
 generalize World.alloc _ _=X at t n ⊢
 go_loopw [4] (fun i wr=>∃(k:Nat),k<=ls.length∧i=.int .i64 k∧Hid (∃us m,ml wr w.heap.size ls.length 22 3 1 (ci ls) k us m∧∀j,j<k->m j<=m (j+1))∧Hid (Below w.heap.size w wr)) (fun i _=>ls.length - (intOf i).toNat)
 case atStart=>exact⟨0,oA,rfl,hid ⟨[],_,t.out,fun j M=>oA⟩,n⟩
 case round=>
  obtain⟨k,hk,rfl,p,f⟩:=hrel;by_cases d:k<ls.length
  ·have ah:(k:Int)<(ls.length:Int):=oA;obtain⟨us,m,a,h⟩:=p.out;have R:=H.out oA;subst R;obtain⟨x,B,U⟩:=K.out k d;have A:=(f.out.cell (aj _ _ B)).trans B;have Z:=(World.cell?_alloc_lt wr (.cells #[] 3) _ (aj _ _ A)).trans A;obtain⟨q1,b1,ai,L,rfl,Q,W⟩:=U;have y:=pn Q W (bal f.out (.cells #[] 3));obtain⟨C,z,w1,S,T,c⟩:=j5 (P:=Tryz.prog) wr 22 22 3 (.int .i64 0) 1 8 Tryz.underlying22 kD rfl oD q1 ls[k].length L (dU ls[k]) y.1 (ma _) y.2 (pk _) (J.out _ (av d)) oD;have F:=hid (show (ci ls) k=(ls[k].length,dU ls[k]) by unfold ci;rw[aa,ac d];rfl);have Y:=(a.below c).cell d;have fk:=(a.below c).row.frozenAt k;have G:=hid (a.more d c (u:=.slice C ls[k].length z) (by rw[F.out];exact T));have D:=hid (iq (btr f.out c) (o:=k) (aq _) (.slice C ls[k].length z));have E:=hid (aB a.hi c.size);have g:=hid h;have I:=hid S;go_wp2_with (at_builtin;refine fD rfl _ _ _ rfl _ _ _ rfl rfl I.out ?_)
   refine⟨⟨k+1,oA,by go_num,hid ⟨_,_,G.out,fun j M=>?_⟩,D⟩,by simp[intOf];omega⟩;by_cases e:j<k
   ·rw[ag oA,ag oA];exact g.out j e
   ·rw[ag oA,ae oA,show j=k by omega];exact E.out
  ·obtain rfl:k=ls.length:=oA;have ab:¬((ls.length:Int)<(ls.length:Int)):=oA;obtain⟨us,m,a,h⟩:=p.out;have s:=hid a;have g:=hid h;go_wp2_with fail
   go_ret
   exact⟨_,rfl,⟨w.heap.size,us,m,rfl,aq _,s.out.hi,g.out,s.out⟩,f.out⟩
theorem ox {w w':World} {N B e size n:Nat} {v:Value} {xs:List Value} (h:w.ownsRow B e size v n xs) (j:∀k,v.ownBlock=some k->k<N) (i:Below N w w'):w'.ownsRow B e size v n xs:=by
 refine⟨h.1,?_⟩;rcases h.2 with b|⟨g,cap,a,rfl,c,d,f⟩
 ·exact .inl b
 ·exact .inr ⟨g,cap,a,rfl,c,by rw[i.block g (j g rfl)];exact d,f⟩
theorem InO.IX {w w':World} {N lo hi I s:Nat} {u:Value} {c:Nat×List Value} (h:InO w lo hi I s u c) (a:hi<=N) (b:Below N w w'):InO w' lo hi I s u c:=⟨ox h.1 (fun k hk=>aE (h.2 k hk) a) b,h.2⟩
theorem iC.IX {w w':World} {N lo hi O I s n:Nat} {v:Value} {cc:Nat->Nat×List Value} (h:iC w lo hi O I s n v cc) (e:hi<=N) (i:Below N w w') (p:N<=w'.heap.size):iC w' lo hi O I s n v cc:=by
 obtain⟨g,us,m,l,o,b,f,a⟩:=h;have up:∀d j,j+d=n->m j<=m n:=fun d=>by
  induction d with
  |zero=>intro j c;rw[show j=n by omega];exact aq _
  |succ d ih=>intro j c;exact aB (f j oA) (ih (j+1) oA)
 have q:=aE (a.lo n (aq _)) (aB b e);refine⟨g,us,m,l,o,b,f,⟨a.len,ox a.row (fun k hk=>?_) i,a.lo,aB b (aB e p),fun j c=>(a.each j c).IX (aB (up (n - (j+1)) (j+1) (by rw[a.len] at c;omega)) (aB b e)) i⟩⟩;have:g=k:=by simpa [Value.ownBlock] using hk
 omega
structure CS (w:World) (V:Nat->Value) (W:World) (xs:List Value):Prop where
 JA:Below w.heap.size w W
 src:W.rangeAt w.heap.size 0 (de V).toList
 out:W.rangeAt (w.heap.size+2) 0 xs
 th:W.there (w.heap.size+2) 0 11
 res:W.there (w.heap.size+1) 0 11
 sz:w.heap.size+3<=W.heap.size
theorem CS.grow {w W b:World} {V:Nat->Value} {xs:List Value} (h:CS w V W xs) (a:Below W.heap.size W b):CS w V b xs:=
 ⟨btr h.JA a,bf h.src a,bf h.out a,cw h.th a,cw h.res a,aB h.sz a.size⟩
theorem CS.put {w W:World} {V:Nat->Value} {xs:List Value} (h:CS w V W xs) {j:Nat} (a:j<xs.length) (v:Value):CS w V (W.setCell ⟨w.heap.size+2,j,none⟩ v) (xs.set j v):=
 ⟨iq h.JA oA v,rp h.src oA v,m6 h.out a v,ib h.th _ v,ib h.res _ v,by simpa using h.sz⟩
theorem CS.cell {w W:World} {V:Nat->Value} {xs:List Value} (h:CS w V W xs) {j:Nat} {v:Value} (a:(de V).toList[j]? =some v):W.cell? ⟨w.heap.size,j,none⟩=some v:=ai h.src a
theorem CS.JS {w W:World} {V:Nat->Value} {xs:List Value} (h:CS w V W xs) {j:Nat} {v:Value} (a:xs[j]? =some v):W.cell? ⟨w.heap.size+2,j,none⟩=some v:=ai h.out a
theorem CS.Kn {w W:World} {V:Nat->Value} {xs:List Value} (h:CS w V W xs) {j:Nat} (a:j<11):W.frozen? ⟨w.heap.size+2,j,none⟩=false:=by
 have:=(h.th j a).2
 rwa [aC] at this
theorem tv {N:Nat} {w w':World} {b n:Nat} (h:w.there b 0 n) (c:Below N w w') (a:b<N):w'.there b 0 n:=fun j f=>by
 obtain⟨d,e⟩:=h j f;exact⟨by rw[c.cell (p:=⟨b,0+j,none⟩) a];exact d,by rw[c.frozen (p:=⟨b,0+j,none⟩) a];exact e⟩
theorem yf {N:Nat} {w w':World} {b:Nat} {cs:List Value} (h:w.rangeAt b 0 cs) (c:Below N w w') (a:b<N):w'.rangeAt b 0 cs:=fun j v hv=>(c.cell (p:=⟨b,0+j,none⟩) a).trans (h j v hv)
theorem CS.JJ {w W b:World} {N:Nat} {V:Nat->Value} {xs:List Value} (h:CS w V W xs) (c:w.heap.size+3<=N) (a:Below N W b) (d:N<=b.heap.size):CS w V b xs:=
 ⟨h.JA.trans (a.mono oA),yf h.src a oA,yf h.out a oA,tv h.th a oA,tv h.res a oA,aB c d⟩
theorem uA {n:Nat} {w W:World} {q:Option Addr} {b off:Nat} {fs:List (Nat->Int)} (d:0<fs.length->q=some ⟨b,off,none⟩) (i:∀j (h:j<fs.length),w.rangeAt b (off+j*n) (cf n fs[j])) (g:Below w.heap.size w W):(0<fs.length->q.isSome=true)∧∀c,q=some c->∀j u,(eX n fs)[j]? =some u->W.cell? (c.add j)=some u:=by
 refine⟨fun h=>by rw[d h];rfl,fun c e j u a=>?_⟩;by_cases f:0<fs.length
 ·rw[d f] at e
  cases e
  exact j4 (fun j a=>cS (i j a) g) j u a
 ·have:fs=[]:=List.length_eq_zero_iff.1 oA;rw[this] at a;simp[eX] at a
theorem zn {w W:World} {q:Option Addr} {b off:Nat} {l:List Ent} (d:0<l.length->q=some ⟨b,off,none⟩) (i:gx w b off l) (g:Below w.heap.size w W):(0<l.length->q.isSome=true)∧∀a,q=some a->∀j u,(fo l)[j]? =some u->W.cell? (a.add j)=some u:=by
 refine⟨fun h=>by rw[d h];rfl,fun a e j u c=>?_⟩;by_cases f:0<l.length
 ·rw[d f] at e
  cases e
  exact nY (i.below g) j u c
 ·have:l=[]:=List.length_eq_zero_iff.1 oA;rw[this] at c;simp[fo] at c
theorem fU {P:Program} {w w':World} {o:Oper} {a:Act} {K:Act->World->Prop} {Q:Exit->Act->World->Prop} (s x:Operand) (t:TypeId)
  (c:o.op=.call {callee:=.builtin .append,args:=#[s,x],argTypes:=#[t,t]}) (v u b:Value) (e:a.eval s=v) (f:a.eval x=u) (d:(Builtin.append_ #[t,t] o.type #[v,u]).run P w=.ok b w')
  (h:K (a.put o.dst b) w'):o.wp P a w K Q:=by
 unfold Oper.wp;simp[execOp,c,resolve,invoke,builtin,e,f,d,Result.andThen];exact h
theorem ed.one {w:World} {v:Value} {zs:List Int} (h:ed w v zs):v.oneCell'=true:=by obtain⟨q,b,off,cap,rfl,_⟩:=h;rfl
theorem gi.one {w:World} {v:Value} {zs:List (List Int)} (h:gi w v zs):v.oneCell'=true:=by obtain⟨q,b,off,cap,rfl,_⟩:=h;rfl
theorem iE.one {w:World} {v:Value} {zs:List (List Ent)} (h:iE w v zs):v.oneCell'=true:=by obtain⟨q,b,off,cap,rfl,_⟩:=h;rfl
theorem RowsIn.one {n:Nat} {w:World} {v:Value} {zs:List (Nat->Int)} (h:RowsIn n w v zs):v.oneCell'=true:=by obtain⟨q,b,off,cap,rfl,_⟩:=h;rfl
theorem gF {b n B:Nat}:∀(a:List Value) (o:Nat) (w:World),w.there b 0 n->(w.setCells B o a).there b 0 n
 |[],_,_,h=>h
 |v::r,o,w,h=>by
  rw[World.setCells];exact gF r (o+1) _ (ib h ⟨B,o,none⟩ v)
theorem gO {w:World} {V:Nat->Value} {p:PW} (h:eu w V p):(de V).all (·.oneCell')=true:=Array.all_eq_true'.2 fun x a=>by
 simp only[List.mem_toArray,bK,dA,or_false] at a;rcases a with rfl|rfl|rfl|rfl|rfl|rfl|rfl|rfl|rfl|rfl|rfl
 ·exact h.IL.one
 ·exact h.kinds.one
 ·exact h.IH.one
 ·exact h.II.one
 ·exact h.lines.one
 ·exact h.bits.one
 ·exact h.IJ.one
 ·exact h.ready.one
 ·exact h.IK.one
 ·exact h.IQ.one
 ·rw[h.time];rfl
def Fo (W:World) (lo hi:Nat) (p:PW) (v:Value):Nat->Prop
 |0=>InO W lo hi 3 1 v (p.IL.length,dU p.IL)
 |1=>InO W lo hi 3 1 v (p.kinds.length,dU p.kinds)
 |2=>InO W lo hi 34 7 v (p.IH.length,eX 7 p.IH)
 |3=>InO W lo hi 37 20 v (p.II.length,eX 20 p.II)
 |4=>iC W lo hi 22 3 1 p.lines.length v (ci p.lines)
 |5=>InO W lo hi 3 1 v (p.bits.length,dU p.bits)
 |6=>InO W lo hi 3 1 v (p.IJ.length,dU p.IJ)
 |7=>iC W lo hi 22 3 1 p.ready.length v (ci p.ready)
 |8=>iC W lo hi 38 40 4 p.IK.length v (ce p.IK)
 |9=>InO W lo hi 3 1 v (p.IQ.length,dU p.IQ)
 |_=>True
theorem Fo.to {W i g:World} {lo hi N:Nat} {p:PW} {v x:Value} {a:Addr} (b:Below W.heap.size W i) (c:a.block<lo) (d:hi<=N) (e:Below N (i.setCell a x) g) (f:N<=g.heap.size):∀{j:Nat},Fo W lo hi p v j->Fo g lo hi p v j
 |0,h|1,h|2,h|3,h|5,h|6,h|9,h=>(InO.set (bU h b) c x).IX d e
 |4,h|7,h|8,h=>(iC.set (iC.below h b) c x).IX d e f
 |_+10,_=>trivial
def upf {α:Type} (f:Nat->α) (k:Nat) (v:α) (i:Nat):α:=if i=k then v else f i
theorem tz {α:Type} {f:Nat->α} {k i:Nat} {v:α} (h:i≠k):upf f k v i=f i:=ae h
theorem AE {α:Type} {f:Nat->α} {k:Nat} {v:α}:upf f k v k=v:=ag rfl
theorem DX (X:Nat->Value) (v:Value):∀k,k<10->(de X).toList.set k v=(de (upf X k v)).toList
 |0,_|1,_|2,_|3,_|4,_|5,_|6,_|7,_|8,_|9,_=>rfl
 |n+10,h=>absurd h oA
theorem AK (X:Nat->Value):∀k,k<10->(de X).toList[k]? =some (X k)
 |0,_|1,_|2,_|3,_|4,_|5,_|6,_|7,_|8,_|9,_=>rfl
 |n+10,h=>absurd h oA
theorem DA {L:Nat->Nat} {k:Nat} (m:∀j,j<k->L j<=L (j+1)):∀d j,j+d<=k->L j<=L (j+d)
 |0,_,_=>aq _
 |d+1,j,h=>aB (DA m d j oA) (m (j+d) oA)
structure CP (w:World) (V:Nat->Value) (p:PW) (k:Nat) (X:Nat->Value) (L:Nat->Nat) (W:World):Prop where
 c:CS w V W (de X).toList
 l:L k=W.heap.size
 z:w.heap.size+3<=L 0
 m:∀j,j<k->L j<=L (j+1)
 f:∀j,j<k->Fo W (L j) (L (j+1)) p (X j) j
 t:X 10=.int .i64 p.time
theorem CP.next {w W:World} {V X:Nat->Value} {p:PW} {L:Nat->Nat} {k:Nat} (h:CP w V p k X L W) (hk:k<10) (v:Value) {g W2:World} (i:Below W.heap.size W g) (n:Below W.heap.size (g.setCell ⟨w.heap.size+2,k,none⟩ v) W2) (d:W.heap.size<=W2.heap.size) (f:Fo W2 W.heap.size W2.heap.size p v k):CP w V p (k+1) (upf X k v) (upf L (k+1) W2.heap.size) W2:=by
 refine⟨by rw[<-DX X v k hk];exact ((h.c.grow i).put (j:=k) (show k<11 by omega) v).JJ h.c.sz n d,AE,by rw[tz oA];exact h.z,fun j o=>?_,fun j o=>?_,by rw[tz oA];exact h.t⟩
 ·rw[tz (show j≠k+1 by omega)];by_cases e:j=k
  ·subst e;rw[AE,h.l];exact d
  ·rw[tz oA];exact h.m j oA
 ·rw[tz (show j≠k+1 by omega)];by_cases e:j=k
  ·subst e;rw[AE,AE,h.l];exact f
  ·rw[tz oA,tz e];have a:=DA h.m j 0 oA;have b:=DA h.m (k - (j+1)) (j+1) oA;rw[aC] at a;rw[show j+1+(k - (j+1))=k by omega,h.l] at b;exact Fo.to i (show w.heap.size+2<L j by have:=h.z;omega) b n d (h.f j oA)
theorem CP.put {w W:World} {V X:Nat->Value} {p:PW} {L:Nat->Nat} {k:Nat} (h:CP w V p k X L W) (hk:k<10) {w1:World} (a:Below W.heap.size W w1) (v:Value) (f:Fo w1 W.heap.size w1.heap.size p v k):∃d b,Hid (CP w V p (k+1) d b (w1.setCell ⟨w.heap.size+2,k,none⟩ v)):=by
 have e:(w1.setCell ⟨w.heap.size+2,k,none⟩ v).heap.size=w1.heap.size:=oS;exact⟨_,_,hid (h.next hk v a (af _ _) (by rw[e];exact a.size) (by rw[e];exact Fo.to (af _ _) (show w.heap.size+2<W.heap.size from h.c.sz) (aq _) (af _ _) (by rw[e];exact aq _) f))⟩
theorem CP.cells {w W a:World} {V X:Nat->Value} {p:PW} {L:Nat->Nat} {k:Nat} (h:CP w V p k X L W) (hk:k<10) (b:Below W.heap.size W a):a.cell? ⟨w.heap.size,k,none⟩=some (V k)∧a.cell? ⟨w.heap.size+2,k,none⟩=some (X k)∧a.frozen? ⟨w.heap.size+2,k,none⟩=false:=
 ⟨(h.c.grow b).cell (AK V k hk),(h.c.grow b).JS (AK X k hk),(h.c.grow b).Kn oA⟩
theorem CP.app {w W:World} {V X:Nat->Value} {p:PW} {L:Nat->Nat} {k:Nat} (h:CP w V p k X L W) (hk:k<10) {q:Option Addr} {m c:Nat} (eV:V k=.slice q m c) (t e:TypeId) (z:Value) (size bytes:Nat) (I:Tryz.prog.underlying t=some (.slice e)) (E:(Tryz.prog.info? e).map (fun i=>(i.zero,i.size,i.bytes))=some (some z,size,bytes)) (K:z.cells.size=size) (H:0<size) (f:List Value)
  (A:(0<m->q.isSome=true)∧∀r,q=some r->∀j u,f[j]? =some u->(W.alloc (.cells #[] e)).cell? (r.add j)=some u) (hl:f.length=m*size) (B:∀u∈f,u.oneCell'=true) (C:m<=1000) (D:bytes<=1000) (hF:∀l v,InO l W.heap.size l.heap.size e size v (m,f)->Fo l W.heap.size l.heap.size p v k):
  ∃g d w1 o n,Hid ((Builtin.append_ #[t,t] t #[.slice (some ⟨W.heap.size,0,none⟩) 0 0,.slice q m c]).run Tryz.prog (W.alloc (.cells #[] e))=.ok (.slice g m d) w1)∧(W.alloc (.cells #[] e)).cell? ⟨w.heap.size,k,none⟩=some (.slice q m c)∧w1.cell? ⟨w.heap.size+2,k,none⟩=some (X k)∧w1.frozen? ⟨w.heap.size+2,k,none⟩=false∧Hid (CP w V p (k+1) o n (w1.setCell ⟨w.heap.size+2,k,none⟩ (.slice g m d))):=by
 obtain⟨g,d,w1,G,y,s⟩:=j5 (P:=Tryz.prog) W t t e z size bytes I E K H q m c f A.1 hl A.2 B C D;obtain⟨o,n,F⟩:=h.put hk s (.slice g m d) (hF w1 _ ⟨y,fun x J=>(y.lt x J).2⟩);have a:=h.cells hk (bal (af _ W) (.cells #[] e));have b:=h.cells hk s;rw[eV] at a;exact⟨g,d,w1,o,n,hid G,a.1,b.2.1,b.2.2,F⟩
theorem CP.row {w W:World} {V X:Nat->Value} {p:PW} {L:Nat->Nat} {k:Nat} {zs:List Int} (h:CP w V p k X L W) (hk:k<10) (hv:ed w (V k) zs) (j:zs.length<=1000) (hF:∀a v,InO a W.heap.size a.heap.size 3 1 v (zs.length,dU zs)->Fo a W.heap.size a.heap.size p v k):
  ∃q c f d w1 i g,Hid ((Builtin.append_ #[22,22] 22 #[.slice (some ⟨W.heap.size,0,none⟩) 0 0,.slice q zs.length c]).run Tryz.prog (W.alloc (.cells #[] 3))=.ok (.slice f zs.length d) w1)∧(W.alloc (.cells #[] 3)).cell? ⟨w.heap.size,k,none⟩=some (.slice q zs.length c)∧w1.cell? ⟨w.heap.size+2,k,none⟩=some (X k)∧w1.frozen? ⟨w.heap.size+2,k,none⟩=false∧Hid (CP w V p (k+1) i g (w1.setCell ⟨w.heap.size+2,k,none⟩ (.slice f zs.length d))):=by
 obtain⟨q,b,off,cap,e,l,m⟩:=hv;obtain⟨f,d,w1,i,g,r⟩:=h.app hk e 22 3 (.int .i64 0) 1 8 Tryz.underlying22 kD rfl oD (dU zs) (pn l m (h.c.grow (bal (af _ W) (.cells #[] 3))).JA) (ma _) (pk _) j oD hF;exact⟨q,cap,f,d,w1,i,g,r⟩
theorem CP.own {w W:World} {V X:Nat->Value} {p:PW} {L:Nat->Nat} (h:CP w V p 10 X L W):gj W L X p:=
 ⟨h.m,h.f 0 oD,h.f 1 oD,h.f 2 oD,h.f 3 oD,h.f 4 oD,h.f 5 oD,h.f 6 oD,h.f 7 oD,h.f 8 oD,h.f 9 oD,h.t⟩
theorem zh (V:Nat->Value) (p:PW) (w:World) (hv:eu w V p) (hp:p.Fits):
  Calls Tryz.prog 181 #[.agg (de V)] w fun r w'=>∃V' L,r=.returned (.agg (de V'))∧gj w' L V' p∧w.heap.size<=L 0∧L 10<=w'.heap.size∧Below w.heap.size w w':=by
 have R:=bal (af w.heap.size w) (.cells (de V) 28);have B2:=bal (af _ (w.alloc (.cells (de V) 28))) (.cells zW 28);have T:=bal (af _ ((w.alloc (.cells (de V) 28)).alloc (.cells zW 28))) (.cells zW 28);have RG:=hid (bf (lQ w V 28) B2);have Y:=hid (aP ((w.alloc (.cells (de V) 28)).alloc (.cells zW 28)) zW 28 (w.heap.size+2) 11 oS oD);have TR:=cw (aP (w.alloc (.cells (de V) 28)) zW 28 (w.heap.size+1) 11 oS oD) T;have one:=hid (gO hv);have H0:=hid (show CP w V p 0 V (fun _=>w.heap.size+3) ((((w.alloc (.cells (de V) 28)).alloc (.cells zW 28)).alloc (.cells zW 28)).setCells (w.heap.size+2) 0 (de V).toList) from⟨⟨bT (btr (btr R B2) T) oA _ 0,
  fun k v hk=>by
   rw[cH (w.heap.size+2) _ 0 _ ⟨w.heap.size,0+k,none⟩ (fun e _=>by simp at e)];exact bf RG.out T k v hk,
  World.rangeAt_setCells_same _ (w.heap.size+2) 0 (de V).toList Y.out,gF (de V).toList 0 _ Y.out,gF (de V).toList 0 _ TR,by rw[fu];simp⟩,by rw[fu];simp,aq _,fun j h=>oA,fun j h=>oA,hv.time⟩)
 have n:=hid hv;have f:=hid hp;go_enter Tryz.func181,Tryz.ntmps181
 go_upto_region 2 with (first|((with_reducible refine gld 28 ?_);refine gg oR _ rfl _ rfl V RG.out ?_)|((with_reducible refine gst 28 ?_);refine wpList_store_mid rfl 28 _ _ rfl (w.heap.size+2) 0 (de V) rfl rfl Y.out fA one.out ?_))
 generalize World.setCells _ _ _ _=W0 at*;obtain⟨Q,cs,a4,aN,w1,X1,L1,d,c0,s,g,U⟩:=CP.row H0.out oD n.out.IL f.out.IL (fun _ _ x=>x);go_upto_region 3 with (at_builtin;refine fD rfl _ _ _ rfl _ _ _ rfl rfl d.out ?_)
 generalize World.setCell _ _ _=W1 at*;obtain⟨Q,cs,a5,aO,w1,X2,L2,d,c0,s,g,H2⟩:=CP.row U.out oD n.out.kinds f.out.kinds (fun _ _ x=>x);go_upto_region 4 with (at_builtin;refine fD rfl _ _ _ rfl _ _ _ rfl rfl d.out ?_)
 generalize World.setCell _ _ _=W2 at*;obtain⟨q2,b2,a2,aL,e2,az,aI⟩:=n.out.IH;obtain⟨a6,aQ,w1,X3,L3,d,c0,s,g,H3⟩:=CP.app H2.out oD e2 23 34 (.agg zV) 7 56 Tryz.underlying23 mO rfl oD (eX 7 p.IH) (uA az aI (H2.out.c.grow (bal (af _ W2) (.cells #[] 34))).JA) (gr 7 _) (kL 7 _) f.out.IH oD (fun _ _ x=>x);go_upto_region 5 with (at_builtin;refine fD rfl _ _ _ rfl _ _ _ rfl rfl d.out ?_)
 generalize World.setCell _ _ _=W3 at*;obtain⟨q3,b3,a3,aM,e3,aA,aJ⟩:=n.out.II;obtain⟨a7,aR,w1,X4,L4,d,c0,s,g,I⟩:=CP.app H3.out oD e3 24 37 (.agg zT) 20 160 Tryz.underlying24 qP rfl oD (eX 20 p.II) (uA aA aJ (H3.out.c.grow (bal (af _ W3) (.cells #[] 37))).JA) (gr 20 _) (kL 20 _) f.out.II oD (fun _ _ x=>x);go_upto_region 6 with (at_builtin;refine fD rfl _ _ _ rfl _ _ _ rfl rfl d.out ?_)
 generalize World.setCell _ _ _=W4 at*;have c0:=(I.out.cells oD (af _ _)).1;go_wp2_with fail
 refine (mz _ p.lines W4 (n.out.below I.out.c.JA).lines f.out.lines f.out.line).mono ?_;rintro r w1 ⟨u,rfl,B,q⟩;obtain⟨qu,rfl⟩:=js B;obtain⟨X5,L5,H5⟩:=I.out.put oD q _ B;have g:=(I.out.cells oD q).2;obtain⟨s,g⟩:=g;go_upto_region 7 with fail
 generalize World.setCell _ _ _=W5 at*;obtain⟨Q,cs,a8,aS,w1,X6,L6,d,c0,s,g,H6⟩:=CP.row H5.out oD n.out.bits f.out.bits (fun _ _ x=>x);go_upto_region 8 with (at_builtin;refine fD rfl _ _ _ rfl _ _ _ rfl rfl d.out ?_)
 generalize World.setCell _ _ _=W6 at*;obtain⟨Q,cs,a9,aT,w1,X7,L7,d,c0,s,g,J⟩:=CP.row H6.out oD n.out.IJ f.out.IJ (fun _ _ x=>x);go_upto_region 9 with (at_builtin;refine fD rfl _ _ _ rfl _ _ _ rfl rfl d.out ?_)
 generalize World.setCell _ _ _=W7 at*;have c0:=(J.out.cells oD (af _ _)).1;go_wp2_with fail
 refine (mz _ p.ready W7 (n.out.below J.out.c.JA).ready f.out.ready f.out.next).mono ?_;rintro r w1 ⟨u,rfl,B,q⟩;obtain⟨qu,rfl⟩:=js B;obtain⟨X8,L8,D⟩:=J.out.put oD q _ B;have g:=(J.out.cells oD q).2;obtain⟨s,g⟩:=g;go_upto_region 10 with fail
 generalize World.setCell _ _ _=b at*;obtain⟨q8,b8,C,ab,e8,aC,aK⟩:=n.out.IK;have ap:=hid aC;have au:=hid aK;have aY:(p.IK.length:Int)<=1000:=by have:=f.out.IK;omega
 have mk:=gG Tryz.underlying26 Cp oD oD p.IK.length f.out.IK b;rw[iT] at mk;have P0:=hid (ml.set (ml.start b p.IK.length 38 40 4 (ce p.IK) (by have:=f.out.IK;unfold maxLen;omega) _ rfl) (a:=⟨w.heap.size+2,8,none⟩) (show w.heap.size+2<b.heap.size from D.out.c.sz) (.slice (some ⟨b.heap.size,0,none⟩) p.IK.length p.IK.length));obtain⟨Z,s,g⟩:=D.out.cells oD (bal (af _ b) (.cells (Array.replicate p.IK.length (Value.slice none 0 0)) 38));have aw:=(D.out.cells oD (af _ _)).1;rw[e8] at Z aw;have an:=hid (fun (W:World) (h2:Below b.heap.size ((b.alloc (.cells (Array.replicate p.IK.length (Value.slice none 0 0)) 38)).setCell ⟨w.heap.size+2,8,none⟩ (.slice (some ⟨b.heap.size,0,none⟩) p.IK.length p.IK.length)) W)=>D.out.next oD (.slice (some ⟨b.heap.size,0,none⟩) p.IK.length p.IK.length) (bal (af _ b) (.cells (Array.replicate p.IK.length (Value.slice none 0 0)) 38)) h2);have am:=hid (((D.out.c.grow (bal (af _ b) (.cells (Array.replicate p.IK.length (Value.slice none 0 0)) 38))).put (j:=8) (show 8<11 by decide) (.slice (some ⟨b.heap.size,0,none⟩) p.IK.length p.IK.length)));have ah:=hid D.out.c.sz;go_upto_region 11 with fail
 generalize World.setCell _ _ _=Wa at*;go_wp2_with fail
 go_loopw [4] (fun i wr=>∃(k:Nat),k<=p.IK.length∧i=.int .i64 k∧Hid (∃us m,ml wr b.heap.size p.IK.length 38 40 4 (ce p.IK) k us m∧∀j,j<k->m j<=m (j+1))∧Hid (Below b.heap.size Wa wr)) (fun i _=>p.IK.length - (intOf i).toNat)
 case atStart=>exact⟨0,oA,rfl,hid ⟨[],_,P0.out,fun j hj=>oA⟩,hid (af _ _)⟩
 case round=>
  obtain⟨k,hk,rfl,ao,X⟩:=hrel;obtain⟨uz,m,y,al⟩:=ao.out;have ad:=aB (Nat.le_of_lt (y.lo k (aq _))) y.hi;have HC:=hid (am.out.JJ ah.out X.out ad);have Z:=HC.out.cell (j:=8) rfl;rw[e8] at Z;by_cases O:k<p.IK.length
  ·have aZ:(k:Int)<(p.IK.length:Int):=oA;have aE:=ap.out oA;subst aE;obtain⟨x,hx,aG, -⟩:=au.out k O;obtain⟨q1,b1,a0,N,rfl,ay,aH,aX⟩:=aG;have BD:=aD wr 1;have G:=hid (HC.out.grow BD);have SR:=zn ay aH (bal G.out.JA (.cells #[] 40));obtain⟨qv,cv,w1,aF,B,q⟩:=j5 (P:=Tryz.prog) wr.drew 38 38 40 (.agg #[.int .i64 0,.int .i64 0,.int .i64 0,.bool false]) 4 32 Tryz.underlying38 mN rfl oD q1 p.IK[k].length N (fo p.IK[k]) SR.1 (kU _) SR.2 (nR _) oA oD;have F:=btr BD q;have ck:=(y.below F).cell O;have fk:=(y.below F).row.frozenAt k;have HN:=hid (y.more O F (u:=.slice qv p.IK[k].length cv) (by rw[show (ce p.IK) k=(p.IK[k].length,fo p.IK[k]) by unfold ce;rw[aa,ac O];rfl];exact B));have R:=hid (show Below b.heap.size Wa (w1.setCell ⟨b.heap.size,k,none⟩ (.slice qv p.IK[k].length cv)) from (X.out.trans (F.mono ad)).setCell (aq _) _);have U:=hid (aB y.hi F.size);have HM:=hid al;have M:=hid (show ∀W,CS w V W ((de X8).toList.set 8 (.slice (some ⟨b.heap.size,0,none⟩) p.IK.length p.IK.length))->(W.cell? ⟨w.heap.size,8,none⟩=some (.slice (some ⟨b8,C,none⟩) p.IK.length ab)∧W.cell? ⟨w.heap.size+2,8,none⟩=some (.slice (some ⟨b.heap.size,0,none⟩) p.IK.length p.IK.length)∧W.cell? ⟨b8,C+k,none⟩=some (.slice q1 p.IK[k].length N)) from fun W h=>⟨by rw[h.cell (j:=8) rfl,e8],h.JS (j:=8) rfl,(h.JA.cell (p:=⟨b8,C+k,none⟩) (aj _ _ hx)).trans hx⟩);have S1:=hid (M.out _ G.out);have S2:=hid (M.out _ (G.out.grow (bal (af _ wr.drew) (.cells #[] 40))));have S3:=hid (M.out _ (G.out.grow q));have S4:=hid (M.out _ ((G.out.grow q).JJ ah.out (show Below b.heap.size w1 (w1.setCell ⟨b.heap.size,k,none⟩ (.slice qv p.IK[k].length cv)) from Below.setCell (af b.heap.size w1) (show b.heap.size<=(⟨b.heap.size,k,none⟩:Addr).block from aq _) _) (by simp;have:=F.size;omega)));have d:=hid aF;go_wp2_with fail
   refine wp_region_held_drew (S:=fun W=>(W.cell? ⟨w.heap.size,8,none⟩=some (.slice (some ⟨b8,C,none⟩) p.IK.length ab)∧W.cell? ⟨w.heap.size+2,8,none⟩=some (.slice (some ⟨b.heap.size,0,none⟩) p.IK.length p.IK.length)∧W.cell? ⟨b8,C+k,none⟩=some (.slice q1 p.IK[k].length N))) oK S1.out (fun E=>?_);have t:=hid E;refine tk 0 (.pointer (some ⟨w.heap.size+2,8,none⟩)) rfl t.out ?_;simp only[jj];refine tg 1 ((.slice (some ⟨b.heap.size,0,none⟩) p.IK.length p.IK.length)) rfl (Or.inl ⟨oR,fun W h=>by have h3:=h.2.1;clear h;go_simp⟩) t.out ?_;simp only[jj];refine tk 2 (.int .i64 k) rfl t.out ?_;simp only[jj];refine tk 4 (.pointer (some ⟨w.heap.size,8,none⟩)) rfl t.out ?_;simp only[jj];refine tg 5 (.slice (some ⟨b8,C,none⟩) p.IK.length ab) rfl (Or.inl ⟨oR,fun W h=>by have h3:=h.1;clear h;go_simp⟩) t.out ?_;simp only[jj];refine tk 6 (.int .i64 k) rfl t.out ?_;simp only[jj];refine tk 7 (.pointer (some ⟨b8,C+k,none⟩)) rfl t.out ?_;simp only[jj];refine tg 8 (.slice q1 p.IK[k].length N) rfl (Or.inl ⟨oR,fun W h=>by have h3:=h.2.2;clear h;go_simp⟩) t.out ?_;simp only[jj];refine wpAnyH_ready (rs:=[3]) oK oS (AllReadyH.cons rfl (fun K H=>?_) AllReadyH.nil);go_simp
   refine H.out _ _ S2.out (fun E=>?_);have aV:=hid E;refine wpAnyH_ready (rs:=[9]) oK oS (AllReadyH.cons rfl (fun K H=>?_) AllReadyH.nil);refine fU _ _ _ rfl _ _ _ rfl rfl d.out ?_;refine H.out _ _ S3.out (fun E=>?_);have ax:=hid E
   try simp only[Act.put,jD]
   refine tk 10 (.pointer (some ⟨b.heap.size,k,none⟩)) rfl ax.out ?_;simp only[jj];refine wpAnyH_ready (rs:=[11]) oK oS (AllReadyH.cons rfl (fun K H=>?_) AllReadyH.nil);go_simp
   refine H.out _ _ S4.out (fun E=>?_)
   try simp only[Act.put]
   refine dw oK ?_ _;go_wp2_with fail
   refine⟨⟨k+1,oA,by go_num,hid ⟨_,_,HN.out,fun j hj=>?_⟩,R⟩,by simp[intOf];omega⟩;by_cases e:j<k
   ·rw[ag oA,ag oA];exact HM.out j e
   ·rw[ag oA,ae oA,show j=k by omega];exact U.out
  ·obtain rfl:k=p.IK.length:=oA;have aW:¬((p.IK.length:Int)<(p.IK.length:Int)):=oA;have H9:=hid (an.out wr X.out ad (show iC wr b.heap.size wr.heap.size 38 40 4 p.IK.length (.slice (some ⟨b.heap.size,0,none⟩) p.IK.length p.IK.length) (ce p.IK) from⟨b.heap.size,uz,m,rfl,aq _,y.hi,al,y⟩));go_upto_region 15 with fail
   generalize wr=W9 at*;obtain⟨Q,cs,ba,aU,w1,A,ai,d,c0,s,g,o⟩:=CP.row H9.out oD n.out.IQ f.out.IQ (fun _ _ x=>x);go_upto_region 16 with (at_builtin;refine fD rfl _ _ _ rfl _ _ _ rfl rfl d.out ?_)
   generalize World.setCell _ _ _=av at*;have one:=hid (gO (o.out.own.v (tw n.out.IK)));have RX:=hid (World.rangeAt_setCells_same av (w.heap.size+1) 0 (de A).toList o.out.c.res);have BX:=hid (bT o.out.c.JA (show w.heap.size<=w.heap.size+1 by omega) (de A).toList 0);go_wp2_with (first|((with_reducible refine gld 28 ?_);refine ja rfl _ rfl (w.heap.size+2) rfl A o.out.c.out ?_)|((with_reducible refine gst 28 ?_);refine wpList_store_mid rfl 28 _ _ rfl (w.heap.size+1) 0 (de A) rfl rfl o.out.c.res fA one.out ?_))
   refine ar (v:=.agg (de A)) (gh rfl rfl (run_loadVar_mid _ (w.heap.size+1) 0 28 (de A).toList _ RX.out Tryz.underlying28 rfl fA)) rfl ⟨A,rfl,ai,o.out.own.I6 (show w.heap.size+1<ai 0 by have:=o.out.z;omega) _ 0,by have:=o.out.z;omega,by rw[fu,o.out.l];exact aq _,BX.out⟩
