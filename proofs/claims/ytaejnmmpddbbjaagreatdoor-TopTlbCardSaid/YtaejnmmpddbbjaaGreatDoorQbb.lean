/- Qbb -/
import Derived.BigGuard
import Derived.BigQuiet
import Derived.Test.YtaejnmmpddbbjaaGreatDoorQba
set_option maxRecDepth 100000
set_option maxHeartbeats 16000000
namespace Go.Proofs.YtaejnmmpddbbjaaGreatDoor
namespace Wd
open Go.RowKit Mem Bw Nums Mmu
theorem gA {b W:World} (h:Below b.heap.size b W) {a:Addr} {v:Value} (e:b.cell? a=some v):W.cell? a=some v:=(h.cell (aj _ _ e)).trans e
theorem l4 (wb:Nat) (tag:Nat->Nat) (V:Nat->Value) (p:PW) (H Y ca s g f wr:Nat) (w:World) (bt:cb w wb tag V p) (J:p.Fits) (hl:∀l∈p.D9,l.length<=100) (u:fu w H Y [(s:Int),(g:Int),(f:Int),(wr:Int)]) (ht:tag H=0)
  (t:fmE p s 4=0) (hg:g<=255) (hw:wr<=1) (hf:f<p.kinds.length) (hr:p.Eb.length=p.kinds.length*16) (hk:p.kinds.getD f 0=3) (X:p.Eb.getD (s*16+g/16) 0=0):
  Calls Tryz.prog 128 #[.pointer (some ⟨wb,0,none⟩),.slice (some ⟨H,Y,none⟩) 4 ca] w fun r w'=>r=.returned (.int .i64 0)∧cb w' wb tag V {p with Eb:=p.Eb.set (s*16+g/16) (32768+(f:Int))}∧Kt tag tag w w':=by
 have M:=hid (bt.view J hl);have BT:=hid bt;have hs:s<p.kinds.length:=by
  unfold fmE at t;by_cases h:(s:Int)<0∨(p.kinds.length:Int)<=(s:Int)
  ·rw[af h] at t;cases t
  ·omega
 have a0:=u 0 oS;have a1:=u 1 oS;have Q:=u 2 oS;have S:=u 3 oS;rw[bG] at a0;simp only[aS,bc] at a0 a1 Q S;have c0:=r11 0 bt.r;have c1:=r11 1 bt.r;obtain⟨q1,b1,o1,k1,e1,ag,ah⟩:=M.v.kinds;have an:=J.kinds;have ap:=J.Eb;have aw:(p.kinds.length:Int)<=1000:=oA;have ay:(p.Eb.length:Int)<=1000:=oA;obtain rfl:=ag oA;have T:=ah f hf;rw[show p.kinds[f]=3 by rw[aa,ac hf] at hk;exact hk] at T;obtain⟨a,cap0,G⟩:∃a cap0,V 0=.slice (some ⟨a,0,none⟩) p.Eb.length cap0:=bt.o.Eb.form (by show 0<p.Eb.length;omega)
 have I:s*16+g/16<p.Eb.length:=oA;rw[G] at c0;rw[e1] at c1;have cr:w.cell? ⟨a,s*16+g/16,none⟩=some (.int .i64 0):=by
  obtain⟨q,b,o,k,e,hq,aq⟩:=M.v.Eb;rw[G] at e
  cases e
  have:=hq oA
  cases this
  have:=aq _ I;rw[az] at this;rw[this,show p.Eb[s*16+g/16]=0 by rw[aa,ac I] at X;exact X]
 have N:=hid (fun W (h:Below w.heap.size w W)=>(⟨gA h a0,gA h a1,gA h Q,gA h S,gA h c0,gA h c1,gA h T,gA h cr⟩:_∧_∧_∧_∧_∧_∧_∧_));have HM:=hid (gT wb V p s 4 w M);rw[t] at HM;have al:=hid (fun nq=>show Calls Tryz.prog 33 #[.int .i64 g,.int .i64 255] (w.drewN nq) fun e w'=>e=.returned (.bool false)∧w'=w.drewN nq from (Isa.eI g 255 (w.drewN nq)).mono fun e w' ⟨U,i⟩=>⟨by rw[U,show decide ((g:Int)<0∨255<(g:Int))=false from ax oA],i.symm⟩);have am:=hid (fun nq=>show Calls Tryz.prog 33 #[.int .i64 wr,.int .i64 1] (w.drewN nq) fun e w'=>e=.returned (.bool false)∧w'=w.drewN nq from (Isa.eI wr 1 (w.drewN nq)).mono fun e w' ⟨U,i⟩=>⟨by rw[U,show decide ((wr:Int)<0∨1<(wr:Int))=false from ax oA],i.symm⟩);have f1:decide ((f:Int)<0)=false:=ax oA;have f2:decide ((p.kinds.length:Int)<=(f:Int))=false:=ax oA;clear u t hk X ah ag e1 bt T cr;have HT:=hid ht;have ad:=hid G;have ar:=hid hr;have HD:=hid I;clear ht G hr I an ap hl J;go_enter Tryz.func128,Tryz.ntmps128
 go_wp2_with fail
 refine HM.mono ?_;rintro r w1 ⟨rfl,rfl⟩;go_upto_region 4 with fail
 refine aZ oK oK ?_
 repeat (first|go_big_quiet_skip|(go_big_quiet_want;go_big_quiet_op;first|go_big_quiet_on|go_big_quiet_call (first|((with_reducible (show Calls _ 33 #[.int .i64 (g:Int),_] _ _));refine dM (al.out _))|((with_reducible (show Calls _ 33 #[.int .i64 (wr:Int),_] _ _));refine dM (am.out _)))))
 refine cy ?_;intro _ x;obtain⟨nq,y⟩:=x;subst y;have Z:=hid (aV (ai w.heap.size w) nq);obtain⟨z,A,j,B,m,C,D,n⟩:=N.out _ Z;clear a0 a1 Q S c0 c1;have f3:decide (p.kinds.length<=f)=false:=ax oA;generalize w.drewN nq=w1 at*;have ao:(g:Int).tdiv 16=((g/16:Nat):Int):=by rw[bN oA];omega
 go_upto_region 6 with fail
 refine aZ oK oK ?_
 repeat (first|go_big_quiet_skip|(go_big_quiet_want;go_big_quiet_op;first|go_big_quiet_on|go_big_quiet_call (fail)))
 refine cy ?_;intro _ x;obtain⟨nq,y⟩:=x;subst y;rw[show (s:Int)*16+(g:Int)/16=((s*16+g/16:Nat):Int) by omega];generalize ae:s*16+g/16=d at*;have aj:=hid ae;clear ae;have au:(d:Int)<(p.Eb.length:Int):=by have:=HD.out;omega
 have av:(f:Int)<(p.kinds.length:Int):=oA;clear ao z A j B m C D n;have B2:=hid (aV Z nq);obtain⟨z,A,j,B,m,C,D,n⟩:=N.out _ B2;generalize w1.drewN nq=w2 at*;go_upto_region 7 with fail
 refine aZ oK oK ?_
 repeat (first|go_big_quiet_skip|(go_big_quiet_want;go_big_quiet_op;first|go_big_quiet_on|go_big_quiet_call (fail)))
 refine cy ?_;intro _ x;obtain⟨nq,y⟩:=x;subst y;clear z A j B m C D n;have E:=hid (aV B2 nq);obtain⟨z,A,j,B,m,C,D,n⟩:=N.out _ E;generalize w2.drewN nq=c at*;clear z A B C D;go_upto_region 10 with fail
 have F:=hid (aC c 1);have ab:=hid (BT.below (btr E F));have FZ:=hid (show c.drew.frozen? ⟨a,d,none⟩=false from by
  have i:=ab.o.Eb;rw[ad.out] at i;exact i.frozen d)
 refine bj (R:=fun W=>W.cell? ⟨wb,0,none⟩=some (.slice (some ⟨a,0,none⟩) p.Eb.length cap0)∧W.cell? ⟨H,Y+2,none⟩=some (.int .i64 f)) [10] [0,1,2,3,4,5,6,7,8,9] 1 oK ⟨gA F m,gA F j⟩ oK oK oK (fun _=>?_)
 repeat (refine Rf.rs ?_;simp only[jj])
 refine aG ?_;refine Rf.r1 10 rfl (fun K hK=>?_);have y4:=gA F n;have fz:=FZ.out;go_simp
 refine hK _ _ trivial (bK oK) (fun _ _=>?_);clear hK K
 try simp only[jj]
 refine aO oK ?_ _;rw[show IntKind.i64.wrap (32768+(f:Int))=32768+(f:Int) from bZ _ oA oA];have P:=hid ((BT.below E).Ek ad d (32768+(f:Int)));have L:=hid (show Below (c.setCell ⟨a,d,none⟩ (.int .i64 (32768+(f:Int)))).heap.size (c.setCell ⟨a,d,none⟩ (.int .i64 (32768+(f:Int)))) (c.setCell ⟨a,d,none⟩ (.int .i64 (32768+(f:Int)))).drew from aC _ 1);have O:=hid (show cb (c.setCell ⟨a,d,none⟩ (.int .i64 (32768+(f:Int)))).drew wb tag V {p with Eb:=p.Eb.set d (32768+(f:Int))}∧Kt tag tag w (c.setCell ⟨a,d,none⟩ (.int .i64 (32768+(f:Int)))).drew from⟨P.1.below L,((bf E).trans P.2).trans (bf L)⟩);generalize (c.setCell ⟨a,d,none⟩ (.int .i64 (32768+(f:Int)))).drew=W9 at O ⊢;clear P L FZ fz y4 n m j ab;go_wp2_with fail
 go_ret
 exact⟨rfl,by rw[aj.out];exact O.1,O.2⟩
theorem mZ (wb:Nat) (tag:Nat->Nat) (V:Nat->Value) (p:PW) (D M ca s g f wr a:Nat) (w:World) (bt:cb w wb tag V p) (J:p.Fits) (hl:∀l∈p.D9,l.length<=100) (F:fu w D M [(s:Int),(g:Int),(f:Int),(wr:Int)]) (ht:tag D=0)
  (E:fmE p s 4=0) (hg:g<=255) (hw:wr<=1) (hf:f<p.kinds.length) (hr:p.Eb.length=p.kinds.length*16) (hk:p.kinds.getD f 0=2) (Z:p.Eb.getD (s*16+g/16) 0=a) (aE:0<a) (au:a<=65535) (L:a%1024*16+g%16<p.Eb.length) (Y:p.Eb.getD (a%1024*16+g%16) 0=0):
  Calls Tryz.prog 128 #[.pointer (some ⟨wb,0,none⟩),.slice (some ⟨D,M,none⟩) 4 ca] w fun r w'=>r=.returned (.int .i64 0)∧cb w' wb tag V {p with Eb:=p.Eb.set (a%1024*16+g%16) (32768+(wr:Int)*16384+(f:Int))}∧Kt tag tag w w':=by
 have O:=hid (bt.view J hl);have BT:=hid bt;have hs:s<p.kinds.length:=by
  unfold fmE at E;by_cases h:(s:Int)<0∨(p.kinds.length:Int)<=(s:Int)
  ·rw[af h] at E;cases E
  ·omega
 have a0:=F 0 oS;have a1:=F 1 oS;have S:=F 2 oS;have T:=F 3 oS;rw[bG] at a0;simp only[aS,bc] at a0 a1 S T;have c0:=r11 0 bt.r;have c1:=r11 1 bt.r;obtain⟨q1,b1,o1,k1,e1,aj,am⟩:=O.v.kinds;have av:=J.kinds;have ay:=J.Eb;have aJ:(p.kinds.length:Int)<=1000:=oA;have aL:(p.Eb.length:Int)<=1000:=oA;obtain rfl:=aj oA;have U:=am f hf;rw[show p.kinds[f]=2 by rw[aa,ac hf] at hk;exact hk] at U;obtain⟨b,cap0,H⟩:∃b cap0,V 0=.slice (some ⟨b,0,none⟩) p.Eb.length cap0:=bt.o.Eb.form (by show 0<p.Eb.length;omega)
 have I:s*16+g/16<p.Eb.length:=oA;rw[H] at c0;rw[e1] at c1;obtain⟨qr,br,aM,kr,er,al,ab⟩:=O.v.Eb;rw[H] at er
 cases er
 have ar:=al oA
 cases ar
 have cr:w.cell? ⟨b,s*16+g/16,none⟩=some (.int .i64 a):=by
  have:=ab _ I;rw[az] at this;rw[this,show p.Eb[s*16+g/16]=(a:Int) by rw[aa,ac I] at Z;exact Z]
 have cp:w.cell? ⟨b,a%1024*16+g%16,none⟩=some (.int .i64 0):=by
  have:=ab _ L;rw[az] at this;rw[this,show p.Eb[a%1024*16+g%16]=0 by rw[aa,ac L] at Y;exact Y]
 have C:=hid (fun W (h:Below w.heap.size w W)=>(⟨gA h a0,gA h a1,gA h S,gA h T,gA h c0,gA h c1,gA h U,gA h cr,gA h cp⟩:_∧_∧_∧_∧_∧_∧_∧_∧_));have HM:=hid (gT wb V p s 4 w O);rw[E] at HM;have an:=hid (fun nq=>show Calls Tryz.prog 33 #[.int .i64 g,.int .i64 255] (w.drewN nq) fun e w'=>e=.returned (.bool false)∧w'=w.drewN nq from (Isa.eI g 255 (w.drewN nq)).mono fun e w' ⟨X,A⟩=>⟨by rw[X,show decide ((g:Int)<0∨255<(g:Int))=false from ax oA],A.symm⟩);have ao:=hid (fun nq=>show Calls Tryz.prog 33 #[.int .i64 wr,.int .i64 1] (w.drewN nq) fun e w'=>e=.returned (.bool false)∧w'=w.drewN nq from (Isa.eI wr 1 (w.drewN nq)).mono fun e w' ⟨X,A⟩=>⟨by rw[X,show decide ((wr:Int)<0∨1<(wr:Int))=false from ax oA],A.symm⟩);have f1:decide ((f:Int)<0)=false:=ax oA;have f2:decide ((p.kinds.length:Int)<=(f:Int))=false:=ax oA;clear F E hk Z am aj e1 bt U cr cp al ab Y;have HT:=hid ht;have ae:=hid H;have aB:=hid hr;have HD:=hid I;have aq:=hid L;have aF:((a:Int)==0)=false:=by simp;omega
 have aH:(a:Int)<=65535:=oA;clear L au;clear ht H hr I av ay hl J;go_enter Tryz.func128,Tryz.ntmps128
 go_wp2_with fail
 refine HM.mono ?_;rintro r w1 ⟨rfl,rfl⟩;go_upto_region 4 with fail
 refine aZ oK oK ?_
 repeat (first|go_big_quiet_skip|(go_big_quiet_want;go_big_quiet_op;first|go_big_quiet_on|go_big_quiet_call (first|((with_reducible (show Calls _ 33 #[.int .i64 (g:Int),_] _ _));refine dM (an.out _))|((with_reducible (show Calls _ 33 #[.int .i64 (wr:Int),_] _ _));refine dM (ao.out _)))))
 refine cy ?_;intro _ m;obtain⟨nq,n⟩:=m;subst n;have B1:=hid (aV (ai w.heap.size w) nq);obtain⟨q,t,c,i,j,u,x,y,k⟩:=C.out _ B1;clear a0 a1 S T c0 c1;have f3:decide (p.kinds.length<=f)=false:=ax oA;generalize w.drewN nq=w1 at*;have aw:(g:Int).tdiv 16=((g/16:Nat):Int):=by rw[bN oA];omega
 go_upto_region 6 with fail
 refine aZ oK oK ?_
 repeat (first|go_big_quiet_skip|(go_big_quiet_want;go_big_quiet_op;first|go_big_quiet_on|go_big_quiet_call (fail)))
 refine cy ?_;intro _ m;obtain⟨nq,n⟩:=m;subst n;rw[show (s:Int)*16+(g:Int)/16=((s*16+g/16:Nat):Int) by omega];generalize ag:s*16+g/16=d at*;have aA:=hid ag;clear ag;have aD:(d:Int)<(p.Eb.length:Int):=by have:=HD.out;omega
 have aI:(f:Int)<(p.kinds.length:Int):=oA;clear aw q t c i j u x y k;have B2:=hid (aV B1 nq);obtain⟨q,t,c,i,j,u,x,y,k⟩:=C.out _ B2;generalize w1.drewN nq=w2 at*;go_upto_region 7 with fail
 refine aZ oK oK ?_
 repeat (first|go_big_quiet_skip|(go_big_quiet_want;go_big_quiet_op;first|go_big_quiet_on|go_big_quiet_call (fail)))
 refine cy ?_;intro _ m;obtain⟨nq,n⟩:=m;subst n;clear q t c i j u x y k;have B3:=hid (aV B2 nq);obtain⟨q,t,c,i,j,u,x,y,k⟩:=C.out _ B3;generalize w2.drewN nq=w3 at*;go_upto_region 12 with fail
 refine aZ oK oK ?_
 repeat (first|go_big_quiet_skip|(go_big_quiet_want;go_big_quiet_op;first|go_big_quiet_on|go_big_quiet_call (fail)))
 refine cy ?_;intro _ m;obtain⟨nq,n⟩:=m;subst n;clear q t c i j u x y k;have B4:=hid (aV B3 nq);obtain⟨q,t,c,i,j,u,x,y,k⟩:=C.out _ B4;generalize w3.drewN nq=w4 at*;go_upto_region 16 with fail
 refine aZ oK oK ?_
 repeat (first|go_big_quiet_skip|(go_big_quiet_want;go_big_quiet_op;first|go_big_quiet_on|go_big_quiet_call (fail)))
 refine cy ?_;intro _ m;obtain⟨nq,n⟩:=m;subst n;rw[show (a:Int)%1024*16+(g:Int)%16=((a%1024*16+g%16:Nat):Int) by omega];generalize ah:a%1024*16+g%16=pg at*;have ap:=hid ah;clear ah;have aK:(pg:Int)<(p.Eb.length:Int):=by have:=aq.out;omega
 clear q t c i j u x y k;have G:=hid (aV B4 nq);obtain⟨q,t,c,i,j,u,x,y,k⟩:=C.out _ G;generalize w4.drewN nq=z at*;clear q t u x y;go_upto_region 19 with fail
 have B:=hid (aC z 1);have ad:=hid (BT.below (btr G B));have FZ:=hid (show z.drew.frozen? ⟨b,pg,none⟩=false from by
  have A:=ad.o.Eb;rw[ae.out] at A;exact A.frozen pg)
 refine bj (R:=fun W=>W.cell? ⟨wb,0,none⟩=some (.slice (some ⟨b,0,none⟩) p.Eb.length cap0)∧W.cell? ⟨D,M+3,none⟩=some (.int .i64 wr)∧W.cell? ⟨D,M+2,none⟩=some (.int .i64 f)) [15] [0,1,2,3,4,5,6,7,8,9,10,11,12,13,14] 1 oK ⟨gA B j,gA B i,gA B c⟩ oK oK oK (fun _=>?_)
 repeat (refine Rf.rs ?_;simp only[jj])
 refine aG ?_;refine Rf.r1 15 rfl (fun K hK=>?_);have y4:=gA B k;have fz:=FZ.out;go_simp
 refine hK _ _ trivial (bK oK) (fun _ _=>?_);clear hK K
 try simp only[jj]
 refine aO oK ?_ _
 try simp only[show IntKind.i64.wrap ((wr:Int)*16384)=(wr:Int)*16384 from bZ _ oA oA,show IntKind.i64.wrap (32768+(wr:Int)*16384)=32768+(wr:Int)*16384 from bZ _ oA oA,show IntKind.i64.wrap (32768+(wr:Int)*16384+(f:Int))=32768+(wr:Int)*16384+(f:Int) from bZ _ oA oA]
 have Q:=hid ((BT.below G).Ek ae pg (32768+(wr:Int)*16384+(f:Int)));have N:=hid (show Below (z.setCell ⟨b,pg,none⟩ (.int .i64 (32768+(wr:Int)*16384+(f:Int)))).heap.size (z.setCell ⟨b,pg,none⟩ (.int .i64 (32768+(wr:Int)*16384+(f:Int)))) (z.setCell ⟨b,pg,none⟩ (.int .i64 (32768+(wr:Int)*16384+(f:Int)))).drew from aC _ 1);have P:=hid (show cb (z.setCell ⟨b,pg,none⟩ (.int .i64 (32768+(wr:Int)*16384+(f:Int)))).drew wb tag V {p with Eb:=p.Eb.set pg (32768+(wr:Int)*16384+(f:Int))}∧Kt tag tag w (z.setCell ⟨b,pg,none⟩ (.int .i64 (32768+(wr:Int)*16384+(f:Int)))).drew from⟨Q.1.below N,((bf G).trans Q.2).trans (bf N)⟩);generalize (z.setCell ⟨b,pg,none⟩ (.int .i64 (32768+(wr:Int)*16384+(f:Int)))).drew=W9 at P ⊢;clear Q N FZ fz y4 k j c i ad;go_wp2_with fail
 go_ret
 exact⟨rfl,by rw[ap.out];exact P.1,P.2⟩
end Wd
namespace Wd
open Go.RowKit Mem Bw Nums Mmu Hex
set_option maxRecDepth 100000 in
set_option maxHeartbeats 8000000 in
theorem nW (wb : Nat) (tag : Nat -> Nat) (V : Nat -> Value) (p : PW) (ga ca s b n : Nat) (w : World) (bt : cb w wb tag V p) (hp : p.Fits) (hl : ∀ l ∈ p.D9, l.length <= 100) (ha : fu w ga 0 [(s : Int), (b : Int), (n : Int)])
  (hsk : p.DZ.length = p.kinds.length * 16) (hs : s < p.DZ.length) (h0 : opE p s = 0) (hn : 1 <= n) (hb : b + n <= p.kinds.length) (hk : ∀ f (hf : f < p.kinds.length), b <= f -> f < b + n -> p.kinds[f] = 0) (hc : ∀ i (hi : i < p.DZ.length), p.DZ[i] 0 ≠ 1) :
  Calls Tryz.prog 126 #[.pointer (some ⟨wb, 0, none⟩), .slice (some ⟨ga, 0, none⟩) 3 ca] w fun r w' => r = .returned (.int .i64 0) ∧ cb w' wb tag V { p with DZ := p.DZ.set s (clk b n) } ∧ Kt tag tag w w' := by
 have HV := hid (bt.view hp hl)
 have BT := hid bt
 have a0 := ha 0 (by simp)
 have a1 := ha 1 (by simp)
 have a2 := ha 2 (by simp)
 rw [Nat.zero_add] at a0 a1 a2
 simp only [List.getElem_cons_zero, List.getElem_cons_succ] at a0 a1 a2
 have c1 : w.cell? ⟨wb, 1, none⟩ = some (V 1) := iU bt.r rfl
 have c2 : w.cell? ⟨wb, 2, none⟩ = some (V 2) := iU bt.r rfl
 obtain ⟨q1, b1, o1, k1, e1, hq1, hz1⟩ := HV.out.v.kinds
 obtain ⟨g2, cap2, e2⟩ := bt.o.DZ.form (by omega)
 have hk2 := hp.kinds
 have hs2 := hp.DZ
 have hkl : (p.kinds.length : Int) <= 1000 := by omega
 have hsl : (p.DZ.length : Int) <= 1000 := by omega
 obtain rfl := hq1 (by omega)
 rw [e2] at c2
 rw [e1] at c1
 have KC := hid (fun W (h : Below w.heap.size w W) => (⟨gA h a0, gA h a1, gA h a2, gA h c1, gA h c2⟩ : _ ∧ _ ∧ _ ∧ _ ∧ _))
 have KK := hid (fun W (h : Below w.heap.size w W) f (hf : f < p.kinds.length) (h1 : b <= f) (h2 : f < b + n) => show W.cell? ⟨b1, o1 + f, none⟩ = some (.int .i64 0) from by have := hz1 f hf; rw [hk f hf h1 h2] at this; exact gA h this)
 have KS := hid (fun W (h : Below w.heap.size w W) i (hi : i < p.DZ.length) => show W.rangeAt g2 (i * 7) (cf 6 p.DZ[i]) from rM (fun j v hv => by
  have hj : j < 7 := by have := (List.getElem?_eq_some_iff.1 hv).1; rw [g5] at this; exact this
  have := gA h (BT.out.Em e2 hi hj)
  rw [this, <- hv, dp 7 _ j hj]))
 have HO := hid (fun W (h : Below w.heap.size w W) => show Calls Tryz.prog 76 #[.pointer (some ⟨wb, 0, none⟩), .int .i64 s] W fun r w' => r = .returned (.int .i64 0) ∧ W = w' from by have := rA wb V p s W ((BT.out.below h).view hp hl) hsk; rw [h0] at this; exact this)
 have HC := hid hc
 have HE2 := hid e2
 have f1 : decide ((s : Int) < 0) = false := decide_eq_false (by omega)
 have f2 : decide ((p.DZ.length : Int) <= (s : Int)) = false := decide_eq_false (by omega)
 have f2n : decide (p.DZ.length <= s) = false := decide_eq_false (by omega)
 have f5n : decide (p.kinds.length < b + n) = false := decide_eq_false (by omega)
 have f3 : decide ((b : Int) < 0) = false := decide_eq_false (by omega)
 have f4 : decide ((n : Int) < 1) = false := decide_eq_false (by omega)
 have f5 : decide ((p.kinds.length : Int) < (b : Int) + (n : Int)) = false := decide_eq_false (by omega)
 have wbn : IntKind.i64.wrap ((b : Int) + (n : Int)) = (b : Int) + (n : Int) := lV _ (by omega) (by omega)
 clear ha h0 hk hc hz1 hq1 e1 e2 bt HV
 have HSK := hid hsk
 clear hsk
 go_enter Tryz.func126, Tryz.ntmps126
 go_upto_region 1 with fail
 refine wp_region_quiet_lit (by kernel_rfl) (by kernel_rfl) ?_
 repeat (first | go_big_quiet_skip | (go_big_quiet_want; go_big_quiet_op; first | go_big_quiet_on | go_big_quiet_call (fail)))
 refine wpQuiet_nil ?_
 intro _ hw'
 obtain ⟨nq, hw''⟩ := hw'
 subst hw''
 have B1 := hid (below_drewN (Below.refl w.heap.size w) nq)
 clear f1 f2 f2n f3 f4 f5 f5n
 obtain ⟨x0, x1, x2, y1, y2⟩ := KC.out _ B1.out
 clear a0 a1 a2 c1 c2
 generalize w.drewN nq = w1 at *
 go_wp2_with fail
 refine (HO.out _ B1.out).mono ?_
 rintro r w2 ⟨rfl, rfl⟩
 go_wp2_with fail
 clear x0 x1 x2 y1 y2
 go_loopw [6] (fun i wr => ∃ (m : Nat), b <= m ∧ m <= b + n ∧ i = .int .i64 (m : Int) ∧ Hid (Below w.heap.size w wr)) (fun i _ => b + n - (intOf i).toNat)
 case atStart => exact ⟨b, by omega, by omega, rfl, B1⟩
 case round =>
  obtain ⟨m, hm1, hm2, rfl, BR⟩ := hrel
  obtain ⟨x0, x1, x2, y1, y2⟩ := KC.out _ BR.out
  clear B1
  by_cases hlt : m < b + n
  rotate_left
  ·obtain rfl : m = b + n := by omega
   have hge : decide (((b + n : Nat) : Int) < (b : Int) + (n : Int)) = false := decide_eq_false (by omega)
   clear hlt
   go_upto_region 7 with fail
   refine wp_region_quiet_lit (by kernel_rfl) (by kernel_rfl) ?_
   repeat (first | go_big_quiet_skip | (go_big_quiet_want; go_big_quiet_op; first | go_big_quiet_on | go_big_quiet_call (fail)))
   refine wpQuiet_nil ?_
   intro _ hw'
   obtain ⟨nq, hw''⟩ := hw'
   subst hw''
   have B3 := hid (below_drewN BR.out nq)
   clear x0 x1 x2 y1 y2
   obtain ⟨x0, x1, x2, y1, y2⟩ := KC.out _ B3.out
   generalize wr.drewN nq = w3 at *
   clear x1 x2 y1 hge
   go_upto_region 17 with fail
   have BD : Hid (Below w3.heap.size w3 w3.drew) := hid (jP w3 1)
   have B4 := hid (btr B3.out BD.out)
   have BT4 := hid (BT.out.below B4.out)
   have I2 := BT4.out.o.DZ
   rw [HE2.out] at I2
   have TH := hid (I2.there (s * 7) 7 (by show s * 7 + 7 <= p.DZ.length * 7; omega))
   have K2 := hid (BT4.out.Eo HE2.out hs (clk b n))
   have hs3 : (s : Int) < (p.DZ.length : Int) := by omega
   clear I2 x0 y2
   refine Rf.jk (R := fun W => Below w.heap.size w W) [16] [0, 1, 2, 3, 4, 5, 6, 7, 8, 9, 10, 11, 12, 13, 14, 15] 1 (by kernel_rfl) B4.out (by kernel_rfl) (by kernel_rfl) (by kernel_rfl) (fun _ => ?_)
   repeat (refine Rf.wP rfl (by rfl) (fun _ _ _ _ h => h) ?_; apply Exists.intro; refine ⟨fun W h => ?_, ?_⟩; (focus (obtain ⟨h1, h2, h3, h4, h5⟩ := KC.out _ h; clear h; go_simp; try rfl)); simp only [jj])
   refine Rf.uQ ?_
   generalize w3.drew = w5 at *
   refine Rf.dw (rs := [16]) (by kernel_rfl) (by simp) (Rf.di.cons rfl (fun K hK => ?_) Rf.di.nil)
   refine wnt (by rfl) ?_
   simp only [List.getElem_toArray, List.getElem_cons_succ, List.getElem_cons_zero]
   refine wp_store_mid 80 _ _ rfl g2 (s * 7) (cf 7 (clk b n)).toArray rfl rfl TH.out (by rw [mr]; rfl) (all_oneCell_toArray (qz 7 _)) ?_
   refine hK.out _ _ trivial (Rf.eF (by kernel_rfl)) (fun _ _ => ?_)
   clear hK K
   try simp only [jj]
   refine Rf.d5 (by kernel_rfl) ?_ _
   have OUT := hid (show cb (w5.setCells g2 (s * 7) (cf 7 (clk b n))) wb tag V { p with DZ := p.DZ.set s (clk b n) } ∧ Kt tag tag w (w5.setCells g2 (s * 7) (cf 7 (clk b n))) from ⟨K2.out.1, (Kt.below B4.out).trans K2.out.2⟩)
   clear K2 TH BT4
   generalize w5.setCells g2 (s * 7) (cf 7 (clk b n)) = W9 at OUT ⊢
   go_wp2_with fail
   go_ret
   exact ⟨rfl, OUT.out⟩
  have hlt2 : (m : Int) < (b : Int) + (n : Int) := by omega
  have hd : decide ((m : Int) < (b : Int) + (n : Int)) = true := decide_eq_true hlt2
  have hf : (m : Int) < (p.kinds.length : Int) := by omega
  go_upto_region 7 with fail
  refine wp_region_quiet_lit (by kernel_rfl) (by kernel_rfl) ?_
  repeat (first | go_big_quiet_skip | (go_big_quiet_want; go_big_quiet_op; first | go_big_quiet_on | go_big_quiet_call (fail)))
  refine wpQuiet_nil ?_
  intro _ hw'
  obtain ⟨nq, hw''⟩ := hw'
  subst hw''
  have B3 := hid (below_drewN BR.out nq)
  clear x0 x1 x2 y1 y2
  obtain ⟨x0, x1, x2, y1, y2⟩ := KC.out _ B3.out
  have z1 := KK.out _ B3.out m (by omega) hm1 hlt
  generalize wr.drewN nq = w3 at *
  clear BR
  go_wp2_with fail
  clear x0 x1 x2 y1 y2 z1
  go_loopw [7] (fun i wr => ∃ (j : Nat), j <= p.DZ.length ∧ i = .int .i64 (j : Int) ∧ Hid (Below w.heap.size w wr)) (fun i _ => p.DZ.length - (intOf i).toNat)
  case atStart => exact ⟨0, by omega, rfl, B3⟩
  case round =>
   clear B3
   obtain ⟨j, hj, rfl, BI⟩ := hrel
   obtain ⟨x0, x1, x2, y1, y2⟩ := KC.out _ BI.out
   by_cases hlj : j < p.DZ.length
   rotate_left
   ·obtain rfl : j = p.DZ.length := by omega
    have hge : ¬ ((p.DZ.length : Int) < (p.DZ.length : Int)) := by omega
    go_wp2_with fail
    exact ⟨⟨m + 1, by omega, by omega, by go_num, BI⟩, by simp [intOf]; omega⟩
   have hlj2 : (j : Int) < (p.DZ.length : Int) := by omega
   have RJ := hid (KS.out _ BI.out j hlj)
   have NE := hid (HC.out j hlj)
   generalize p.DZ[j] = sj at RJ NE
   generalize wr = w4 at *
   have h1 : (sj 0 == 1) = false := by have := NE.out; simpa using this
   have B5 := hid (bal BI.out (.cells #[.int .i64 0, .int .i64 0, .int .i64 0, .int .i64 0, .int .i64 0, .int .i64 0] 78))
   have HTK := hid (lO w4 #[.int .i64 0, .int .i64 0, .int .i64 0, .int .i64 0, .int .i64 0, .int .i64 0] 78 w4.heap.size 6 rfl (by decide))
   have GE := hid (show w.heap.size <= w4.heap.size from BI.out.size)
   go_upto_region 15 with (first | ((with_reducible (show wpList _ _ _ (⟨_, Op.load 78 _, _, _, _, _⟩ :: _) _ _)); refine rZ rfl _ rfl g2 (j * 7) rfl (cf 6 sj) (g5 _ _) RJ.out ?_) | ((with_reducible (show wpList _ _ _ (⟨_, Op.store 78 _ _, _, _, _, _⟩ :: _) _ _)); refine gv rfl _ _ rfl w4.heap.size 0 rfl (cf 6 sj) rfl (g5 _ _) (qz _ _) HTK.out ?_))
   have KX := hid (show Kp (fun k => k = w4.heap.size) (w4.alloc (.cells #[.int .i64 0, .int .i64 0, .int .i64 0, .int .i64 0, .int .i64 0, .int .i64 0] 78)) ((w4.alloc (.cells #[.int .i64 0, .int .i64 0, .int .i64 0, .int .i64 0, .int .i64 0, .int .i64 0] 78)).setCells w4.heap.size 0 (cf 6 sj)) from Kp.setCells (T := fun k => k = w4.heap.size) (.inl rfl) _ _ _ (Kp.refl _ _))
   have B6 := hid (KX.out.below B5.out B5.out.size (fun k hk e => by have := GE.out; omega))
   have r0 := World.rangeAt_setCells_same _ w4.heap.size 0 (cf 6 sj) HTK.out 0 _ (dp 6 sj 0 (by omega))
   rw [Nat.add_zero] at r0
   clear KX HTK B5 RJ GE x0 x1 x2 y1 y2
   generalize World.setCells _ _ _ _ = W6 at B6 r0 ⊢
   generalize w4.heap.size = kb at r0 ⊢
   go_wp2_with fail
   exact ⟨⟨j + 1, by omega, by go_num, B6⟩, by simp [intOf]; omega⟩
