/- Qba -/
import Derived.BigGuard
import Derived.BigQuiet
import Derived.Test.YtaejnmmpddbbjaaGreatDoorQaz
namespace Go.Proofs.YtaejnmmpddbbjaaGreatDoor.Wd
open Go.RowKit Mem Bw Nums Mmu
theorem cupx {b W:World} (h:Below b.heap.size b W) {a:Addr} {v:Value} (e:b.cell? a=some v):W.cell? a=some v:=(h.cell (al _ _ e)).trans e
set_option maxRecDepth 100000
set_option maxHeartbeats 8000000
theorem enterTable_ref (wb:Nat) (tag:Nat→Nat) (V:Nat→Value) (p:PW) (H Y ca s g f wr:Nat) (w:World) (bt:BoxT w wb tag V p) (L:p.Fits) (hl:∀l∈p.tlbs,l.length≤100) (u:IntsAt w H Y [(s:Int),(g:Int),(f:Int),(wr:Int)]) (ht:tag H=0)
  (t:fmE p s 4=0) (hg:g≤255) (hw:wr≤1) (hf:f<p.kinds.length) (hr:p.ram.length=p.kinds.length*16) (hk:p.kinds.getD f 0=3) (X:p.ram.getD (s*16+g/16) 0=0):
  Calls Tryz.prog 128 #[.pointer (some ⟨wb,0,none⟩),.slice (some ⟨H,Y,none⟩) 4 ca] w fun r w'=>r=.returned (.int .i64 0)∧BoxT w' wb tag V {p with ram:=p.ram.set (s*16+g/16) (32768+(f:Int))}∧Kt tag tag w w':=by
 have N:=hid (bt.view L hl);have BT:=hid bt;have hs:s<p.kinds.length:=by
  unfold fmE at t;by_cases h:(s:Int)<0∨(p.kinds.length:Int)≤(s:Int)
  ·rw[ag h] at t;cases t
  ·omega
 have a0:=u 0 (by simp);have a1:=u 1 (by simp);have S:=u 2 (by simp);have T:=u 3 (by simp);rw[bz] at a0;simp only[aV,bk] at a0 a1 S T;have c0:w.cell? ⟨wb,0,none⟩=some (V 0):=af bt.r rfl;have c1:w.cell? ⟨wb,1,none⟩=some (V 1):=af bt.r rfl;obtain⟨q1,b1,o1,k1,e1,ah,ai⟩:=N.v.kinds;have ao:=L.kinds;have aq:=L.ram;have ax:(p.kinds.length:Int)≤1000:=by omega
 have az:(p.ram.length:Int)≤1000:=by omega
 obtain rfl:=ah (by omega);have U:=ai f hf;rw[show p.kinds[f]=3 by rw[aa,ac hf] at hk;exact hk] at U;obtain⟨a,cap0,G⟩:∃a cap0,V 0=.slice (some ⟨a,0,none⟩) p.ram.length cap0:=bt.o.ram.form (by show 0<p.ram.length;omega)
 have J:s*16+g/16<p.ram.length:=by omega
 rw[G] at c0;rw[e1] at c1;have cr:w.cell? ⟨a,s*16+g/16,none⟩=some (.int .i64 0):=by
  obtain⟨q,b,o,k,e,hq,ar⟩:=N.v.ram;rw[G] at e
  cases e
  have:=hq (by omega)
  cases this
  have:=ar _ J;rw[aC] at this;rw[this,show p.ram[s*16+g/16]=0 by rw[aa,ac J] at X;exact X]
 have O:=hid (fun W (h:Below w.heap.size w W)=>(⟨cupx h a0,cupx h a1,cupx h S,cupx h T,cupx h c0,cupx h c1,cupx h U,cupx h cr⟩:_∧_∧_∧_∧_∧_∧_∧_));have HM:=hid (frameMay_ref wb V p s 4 w N);rw[t] at HM;have am:=hid (fun nq=>show Calls Tryz.prog 33 #[.int .i64 g,.int .i64 255] (w.drewN nq) fun e w'=>e=.returned (.bool false)∧w'=w.drewN nq from (Isa.far_any g 255 (w.drewN nq)).mono fun e w' ⟨I,i⟩=>⟨by rw[I,show decide ((g:Int)<0∨255<(g:Int))=false from ay (by omega)],i.symm⟩);have an:=hid (fun nq=>show Calls Tryz.prog 33 #[.int .i64 wr,.int .i64 1] (w.drewN nq) fun e w'=>e=.returned (.bool false)∧w'=w.drewN nq from (Isa.far_any wr 1 (w.drewN nq)).mono fun e w' ⟨I,i⟩=>⟨by rw[I,show decide ((wr:Int)<0∨1<(wr:Int))=false from ay (by omega)],i.symm⟩);have f1:decide ((f:Int)<0)=false:=ay (by omega);have f2:decide ((p.kinds.length:Int)≤(f:Int))=false:=ay (by omega);clear u t hk X ai ah e1 bt U cr;have HT:=hid ht;have ad:=hid G;have au:=hid hr;have HD:=hid J;clear ht G hr J ao aq hl L;go_enter Tryz.func128,Tryz.ntmps128
 go_wp2_with fail
 refine HM.mono ?_;rintro r w1 ⟨rfl,rfl⟩;go_upto_region 4 with fail
 refine bh (by kernel_rfl) (by kernel_rfl) ?_
 repeat (first|go_big_quiet_skip|(go_big_quiet_want;go_big_quiet_op;first|go_big_quiet_on|go_big_quiet_call (first|((with_reducible (show Calls _ 33 #[.int .i64 (g:Int),_] _ _));refine dT (am.out _))|((with_reducible (show Calls _ 33 #[.int .i64 (wr:Int),_] _ _));refine dT (an.out _)))))
 refine cG ?_;intro _ x;obtain⟨nq,y⟩:=x;subst y;have Z:=hid (bc (aj w.heap.size w) nq);obtain⟨z,A,j,B,m,C,D,n⟩:=O.out _ Z;clear a0 a1 S T c0 c1;have f3:decide (p.kinds.length≤f)=false:=ay (by omega);generalize w.drewN nq=w1 at*;have ap:(g:Int).tdiv 16=((g/16:Nat):Int):=by rw[bR (by omega)];omega
 go_upto_region 6 with fail
 refine bh (by kernel_rfl) (by kernel_rfl) ?_
 repeat (first|go_big_quiet_skip|(go_big_quiet_want;go_big_quiet_op;first|go_big_quiet_on|go_big_quiet_call (fail)))
 refine cG ?_;intro _ x;obtain⟨nq,y⟩:=x;subst y;rw[show (s:Int)*16+(g:Int)/16=((s*16+g/16:Nat):Int) by omega];generalize ae:s*16+g/16=d at*;have al:=hid ae;clear ae;have av:(d:Int)<(p.ram.length:Int):=by have:=HD.out;omega
 have aw:(f:Int)<(p.kinds.length:Int):=by omega
 clear ap z A j B m C D n;have B2:=hid (bc Z nq);obtain⟨z,A,j,B,m,C,D,n⟩:=O.out _ B2;generalize w1.drewN nq=w2 at*;go_upto_region 7 with fail
 refine bh (by kernel_rfl) (by kernel_rfl) ?_
 repeat (first|go_big_quiet_skip|(go_big_quiet_want;go_big_quiet_op;first|go_big_quiet_on|go_big_quiet_call (fail)))
 refine cG ?_;intro _ x;obtain⟨nq,y⟩:=x;subst y;clear z A j B m C D n;have E:=hid (bc B2 nq);obtain⟨z,A,j,B,m,C,D,n⟩:=O.out _ E;generalize w2.drewN nq=c at*;clear z A B C D;go_upto_region 10 with fail
 have F:Hid (Below c.heap.size c c.drew):=hid (aA c 1);have ab:=hid (BT.below (btr E F));have FZ:=hid (show c.drew.frozen? ⟨a,d,none⟩=false from by
  have i:=ab.o.ram;rw[ad.out] at i;exact i.frozen d)
 refine aX (R:=fun W=>W.cell? ⟨wb,0,none⟩=some (.slice (some ⟨a,0,none⟩) p.ram.length cap0)∧W.cell? ⟨H,Y+2,none⟩=some (.int .i64 f)) [10] [0,1,2,3,4,5,6,7,8,9] 1 (by kernel_rfl) ⟨cupx F m,cupx F j⟩ (by kernel_rfl) (by kernel_rfl) (by kernel_rfl) (fun _=>?_)
 repeat (refine aJ rfl (by rfl) (fun _ _ _ _ h=>h) ?_;apply Exists.intro;refine⟨fun W h=>?_,?_⟩;(focus (obtain⟨I,i⟩:=h;go_simp;try rfl));simp only[jj])
 refine aE ?_;refine Rf.r1 10 rfl (fun K hK=>?_);have y4:=cupx F n;have fz:=FZ.out;go_simp
 refine hK _ _ trivial (bF (by kernel_rfl)) (fun _ _=>?_);clear hK K
 try simp only[jj]
 refine aL (by kernel_rfl) ?_ _;rw[show IntKind.i64.wrap (32768+(f:Int))=32768+(f:Int) from cw _ (by omega) (by omega)];have Q:=hid ((BT.below E).ramCell ad d (32768+(f:Int)));have M:=hid (show Below (c.setCell ⟨a,d,none⟩ (.int .i64 (32768+(f:Int)))).heap.size (c.setCell ⟨a,d,none⟩ (.int .i64 (32768+(f:Int)))) (c.setCell ⟨a,d,none⟩ (.int .i64 (32768+(f:Int)))).drew from aA _ 1);have P:=hid (show BoxT (c.setCell ⟨a,d,none⟩ (.int .i64 (32768+(f:Int)))).drew wb tag V {p with ram:=p.ram.set d (32768+(f:Int))}∧Kt tag tag w (c.setCell ⟨a,d,none⟩ (.int .i64 (32768+(f:Int)))).drew from⟨Q.1.below M,((aW E).trans Q.2).trans (aW M)⟩);generalize (c.setCell ⟨a,d,none⟩ (.int .i64 (32768+(f:Int)))).drew=W9 at P ⊢;clear Q M FZ fz y4 n m j ab;go_wp2_with fail
 go_ret
 exact⟨rfl,by rw[al.out];exact P.1,P.2⟩
theorem enterPage_ref (wb:Nat) (tag:Nat→Nat) (V:Nat→Value) (p:PW) (D N ca s g f wr a:Nat) (w:World) (bt:BoxT w wb tag V p) (L:p.Fits) (hl:∀l∈p.tlbs,l.length≤100) (F:IntsAt w D N [(s:Int),(g:Int),(f:Int),(wr:Int)]) (ht:tag D=0)
  (E:fmE p s 4=0) (hg:g≤255) (hw:wr≤1) (hf:f<p.kinds.length) (hr:p.ram.length=p.kinds.length*16) (hk:p.kinds.getD f 0=2) (Z:p.ram.getD (s*16+g/16) 0=a) (aG:0<a) (av:a≤65535) (M:a%1024*16+g%16<p.ram.length) (Y:p.ram.getD (a%1024*16+g%16) 0=0):
  Calls Tryz.prog 128 #[.pointer (some ⟨wb,0,none⟩),.slice (some ⟨D,N,none⟩) 4 ca] w fun r w'=>r=.returned (.int .i64 0)∧BoxT w' wb tag V {p with ram:=p.ram.set (a%1024*16+g%16) (32768+(wr:Int)*16384+(f:Int))}∧Kt tag tag w w':=by
 have P:=hid (bt.view L hl);have BT:=hid bt;have hs:s<p.kinds.length:=by
  unfold fmE at E;by_cases h:(s:Int)<0∨(p.kinds.length:Int)≤(s:Int)
  ·rw[ag h] at E;cases E
  ·omega
 have a0:=F 0 (by simp);have a1:=F 1 (by simp);have T:=F 2 (by simp);have U:=F 3 (by simp);rw[bz] at a0;simp only[aV,bk] at a0 a1 T U;have c0:w.cell? ⟨wb,0,none⟩=some (V 0):=af bt.r rfl;have c1:w.cell? ⟨wb,1,none⟩=some (V 1):=af bt.r rfl;obtain⟨q1,b1,o1,k1,e1,al,an⟩:=P.v.kinds;have aw:=L.kinds;have az:=L.ram;have aM:(p.kinds.length:Int)≤1000:=by omega
 have aO:(p.ram.length:Int)≤1000:=by omega
 obtain rfl:=al (by omega);have X:=an f hf;rw[show p.kinds[f]=2 by rw[aa,ac hf] at hk;exact hk] at X;obtain⟨b,cap0,H⟩:∃b cap0,V 0=.slice (some ⟨b,0,none⟩) p.ram.length cap0:=bt.o.ram.form (by show 0<p.ram.length;omega)
 have J:s*16+g/16<p.ram.length:=by omega
 rw[H] at c0;rw[e1] at c1;obtain⟨qr,br,aP,kr,er,am,ab⟩:=P.v.ram;rw[H] at er
 cases er
 have au:=am (by omega)
 cases au
 have cr:w.cell? ⟨b,s*16+g/16,none⟩=some (.int .i64 a):=by
  have:=ab _ J;rw[aC] at this;rw[this,show p.ram[s*16+g/16]=(a:Int) by rw[aa,ac J] at Z;exact Z]
 have cp:w.cell? ⟨b,a%1024*16+g%16,none⟩=some (.int .i64 0):=by
  have:=ab _ M;rw[aC] at this;rw[this,show p.ram[a%1024*16+g%16]=0 by rw[aa,ac M] at Y;exact Y]
 have C:=hid (fun W (h:Below w.heap.size w W)=>(⟨cupx h a0,cupx h a1,cupx h T,cupx h U,cupx h c0,cupx h c1,cupx h X,cupx h cr,cupx h cp⟩:_∧_∧_∧_∧_∧_∧_∧_∧_));have HM:=hid (frameMay_ref wb V p s 4 w P);rw[E] at HM;have ao:=hid (fun nq=>show Calls Tryz.prog 33 #[.int .i64 g,.int .i64 255] (w.drewN nq) fun e w'=>e=.returned (.bool false)∧w'=w.drewN nq from (Isa.far_any g 255 (w.drewN nq)).mono fun e w' ⟨I,A⟩=>⟨by rw[I,show decide ((g:Int)<0∨255<(g:Int))=false from ay (by omega)],A.symm⟩);have ap:=hid (fun nq=>show Calls Tryz.prog 33 #[.int .i64 wr,.int .i64 1] (w.drewN nq) fun e w'=>e=.returned (.bool false)∧w'=w.drewN nq from (Isa.far_any wr 1 (w.drewN nq)).mono fun e w' ⟨I,A⟩=>⟨by rw[I,show decide ((wr:Int)<0∨1<(wr:Int))=false from ay (by omega)],A.symm⟩);have f1:decide ((f:Int)<0)=false:=ay (by omega);have f2:decide ((p.kinds.length:Int)≤(f:Int))=false:=ay (by omega);clear F E hk Z an al e1 bt X cr cp am ab Y;have HT:=hid ht;have ae:=hid H;have aD:=hid hr;have HD:=hid J;have ar:=hid M;have aH:((a:Int)==0)=false:=by simp;omega
 have aI:(a:Int)≤65535:=by omega
 clear M av;clear ht H hr J aw az hl L;go_enter Tryz.func128,Tryz.ntmps128
 go_wp2_with fail
 refine HM.mono ?_;rintro r w1 ⟨rfl,rfl⟩;go_upto_region 4 with fail
 refine bh (by kernel_rfl) (by kernel_rfl) ?_
 repeat (first|go_big_quiet_skip|(go_big_quiet_want;go_big_quiet_op;first|go_big_quiet_on|go_big_quiet_call (first|((with_reducible (show Calls _ 33 #[.int .i64 (g:Int),_] _ _));refine dT (ao.out _))|((with_reducible (show Calls _ 33 #[.int .i64 (wr:Int),_] _ _));refine dT (ap.out _)))))
 refine cG ?_;intro _ n;obtain⟨nq,q⟩:=n;subst q;have B1:=hid (bc (aj w.heap.size w) nq);obtain⟨t,u,i,j,k,x,y,z,m⟩:=C.out _ B1;clear a0 a1 T U c0 c1;have f3:decide (p.kinds.length≤f)=false:=ay (by omega);generalize w.drewN nq=w1 at*;have ax:(g:Int).tdiv 16=((g/16:Nat):Int):=by rw[bR (by omega)];omega
 go_upto_region 6 with fail
 refine bh (by kernel_rfl) (by kernel_rfl) ?_
 repeat (first|go_big_quiet_skip|(go_big_quiet_want;go_big_quiet_op;first|go_big_quiet_on|go_big_quiet_call (fail)))
 refine cG ?_;intro _ n;obtain⟨nq,q⟩:=n;subst q;rw[show (s:Int)*16+(g:Int)/16=((s*16+g/16:Nat):Int) by omega];generalize ah:s*16+g/16=d at*;have aB:=hid ah;clear ah;have aF:(d:Int)<(p.ram.length:Int):=by have:=HD.out;omega
 have aK:(f:Int)<(p.kinds.length:Int):=by omega
 clear ax t u i j k x y z m;have B2:=hid (bc B1 nq);obtain⟨t,u,i,j,k,x,y,z,m⟩:=C.out _ B2;generalize w1.drewN nq=w2 at*;go_upto_region 7 with fail
 refine bh (by kernel_rfl) (by kernel_rfl) ?_
 repeat (first|go_big_quiet_skip|(go_big_quiet_want;go_big_quiet_op;first|go_big_quiet_on|go_big_quiet_call (fail)))
 refine cG ?_;intro _ n;obtain⟨nq,q⟩:=n;subst q;clear t u i j k x y z m;have B3:=hid (bc B2 nq);obtain⟨t,u,i,j,k,x,y,z,m⟩:=C.out _ B3;generalize w2.drewN nq=w3 at*;go_upto_region 12 with fail
 refine bh (by kernel_rfl) (by kernel_rfl) ?_
 repeat (first|go_big_quiet_skip|(go_big_quiet_want;go_big_quiet_op;first|go_big_quiet_on|go_big_quiet_call (fail)))
 refine cG ?_;intro _ n;obtain⟨nq,q⟩:=n;subst q;clear t u i j k x y z m;have B4:=hid (bc B3 nq);obtain⟨t,u,i,j,k,x,y,z,m⟩:=C.out _ B4;generalize w3.drewN nq=w4 at*;go_upto_region 16 with fail
 refine bh (by kernel_rfl) (by kernel_rfl) ?_
 repeat (first|go_big_quiet_skip|(go_big_quiet_want;go_big_quiet_op;first|go_big_quiet_on|go_big_quiet_call (fail)))
 refine cG ?_;intro _ n;obtain⟨nq,q⟩:=n;subst q;rw[show (a:Int)%1024*16+(g:Int)%16=((a%1024*16+g%16:Nat):Int) by omega];generalize ai:a%1024*16+g%16=pg at*;have aq:=hid ai;clear ai;have aN:(pg:Int)<(p.ram.length:Int):=by have:=ar.out;omega
 clear t u i j k x y z m;have G:=hid (bc B4 nq);obtain⟨t,u,i,j,k,x,y,z,m⟩:=C.out _ G;generalize w4.drewN nq=c at*;clear t u x y z;go_upto_region 19 with fail
 have B:Hid (Below c.heap.size c c.drew):=hid (aA c 1);have ad:=hid (BT.below (btr G B));have FZ:=hid (show c.drew.frozen? ⟨b,pg,none⟩=false from by
  have A:=ad.o.ram;rw[ae.out] at A;exact A.frozen pg)
 refine aX (R:=fun W=>W.cell? ⟨wb,0,none⟩=some (.slice (some ⟨b,0,none⟩) p.ram.length cap0)∧W.cell? ⟨D,N+3,none⟩=some (.int .i64 wr)∧W.cell? ⟨D,N+2,none⟩=some (.int .i64 f)) [15] [0,1,2,3,4,5,6,7,8,9,10,11,12,13,14] 1 (by kernel_rfl) ⟨cupx B k,cupx B j,cupx B i⟩ (by kernel_rfl) (by kernel_rfl) (by kernel_rfl) (fun _=>?_)
 repeat (refine aJ rfl (by rfl) (fun _ _ _ _ h=>h) ?_;apply Exists.intro;refine⟨fun W h=>?_,?_⟩;(focus (obtain⟨I,A,h3⟩:=h;go_simp;try rfl));simp only[jj])
 refine aE ?_;refine Rf.r1 15 rfl (fun K hK=>?_);have y4:=cupx B m;have fz:=FZ.out;go_simp
 refine hK _ _ trivial (bF (by kernel_rfl)) (fun _ _=>?_);clear hK K
 try simp only[jj]
 refine aL (by kernel_rfl) ?_ _
 try simp only[show IntKind.i64.wrap ((wr:Int)*16384)=(wr:Int)*16384 from cw _ (by omega) (by omega),show IntKind.i64.wrap (32768+(wr:Int)*16384)=32768+(wr:Int)*16384 from cw _ (by omega) (by omega),show IntKind.i64.wrap (32768+(wr:Int)*16384+(f:Int))=32768+(wr:Int)*16384+(f:Int) from cw _ (by omega) (by omega)]
 have S:=hid ((BT.below G).ramCell ae pg (32768+(wr:Int)*16384+(f:Int)));have O:=hid (show Below (c.setCell ⟨b,pg,none⟩ (.int .i64 (32768+(wr:Int)*16384+(f:Int)))).heap.size (c.setCell ⟨b,pg,none⟩ (.int .i64 (32768+(wr:Int)*16384+(f:Int)))) (c.setCell ⟨b,pg,none⟩ (.int .i64 (32768+(wr:Int)*16384+(f:Int)))).drew from aA _ 1);have Q:=hid (show BoxT (c.setCell ⟨b,pg,none⟩ (.int .i64 (32768+(wr:Int)*16384+(f:Int)))).drew wb tag V {p with ram:=p.ram.set pg (32768+(wr:Int)*16384+(f:Int))}∧Kt tag tag w (c.setCell ⟨b,pg,none⟩ (.int .i64 (32768+(wr:Int)*16384+(f:Int)))).drew from⟨S.1.below O,((aW G).trans S.2).trans (aW O)⟩);generalize (c.setCell ⟨b,pg,none⟩ (.int .i64 (32768+(wr:Int)*16384+(f:Int)))).drew=W9 at Q ⊢;clear S O FZ fz y4 m k i j ad;go_wp2_with fail
 go_ret
 exact⟨rfl,by rw[aq.out];exact Q.1,Q.2⟩
end Go.Proofs.YtaejnmmpddbbjaaGreatDoor.Wd
namespace Go.Proofs.YtaejnmmpddbbjaaGreatDoor.Wd
open Go.RowKit Mem Bw Nums Mmu Hex
set_option maxRecDepth 100000 in
set_option maxHeartbeats 8000000 in
theorem clayLine_ref (wb : Nat) (tag : Nat → Nat) (V : Nat → Value) (p : PW) (ga ca s b n : Nat) (w : World) (bt : BoxT w wb tag V p) (hp : p.Fits) (hl : ∀ l ∈ p.tlbs, l.length ≤ 100) (ha : IntsAt w ga 0 [(s : Int), (b : Int), (n : Int)])
  (hsk : p.slots.length = p.kinds.length * 16) (hs : s < p.slots.length) (h0 : opE p s = 0) (hn : 1 ≤ n) (hb : b + n ≤ p.kinds.length) (hk : ∀ f (hf : f < p.kinds.length), b ≤ f → f < b + n → p.kinds[f] = 0) (hc : ∀ i (hi : i < p.slots.length), p.slots[i] 0 ≠ 1) :
  Calls Tryz.prog 126 #[.pointer (some ⟨wb, 0, none⟩), .slice (some ⟨ga, 0, none⟩) 3 ca] w fun r w' => r = .returned (.int .i64 0) ∧ BoxT w' wb tag V { p with slots := p.slots.set s (clk b n) } ∧ Kt tag tag w w' := by
 have HV := hid (bt.view hp hl)
 have BT := hid bt
 have a0 := ha 0 (by simp)
 have a1 := ha 1 (by simp)
 have a2 := ha 2 (by simp)
 rw [Nat.zero_add] at a0 a1 a2
 simp only [List.getElem_cons_zero, List.getElem_cons_succ] at a0 a1 a2
 have c1 : w.cell? ⟨wb, 1, none⟩ = some (V 1) := range_cell bt.r rfl
 have c2 : w.cell? ⟨wb, 2, none⟩ = some (V 2) := range_cell bt.r rfl
 obtain ⟨q1, b1, o1, k1, e1, hq1, hz1⟩ := HV.out.v.kinds
 obtain ⟨g2, cap2, e2⟩ := bt.o.slots.form (by omega)
 have hk2 := hp.kinds
 have hs2 := hp.slots
 have hkl : (p.kinds.length : Int) ≤ 1000 := by omega
 have hsl : (p.slots.length : Int) ≤ 1000 := by omega
 obtain rfl := hq1 (by omega)
 rw [e2] at c2
 rw [e1] at c1
 have KC := hid (fun W (h : Below w.heap.size w W) => (⟨cupx h a0, cupx h a1, cupx h a2, cupx h c1, cupx h c2⟩ : _ ∧ _ ∧ _ ∧ _ ∧ _))
 have KK := hid (fun W (h : Below w.heap.size w W) f (hf : f < p.kinds.length) (h1 : b ≤ f) (h2 : f < b + n) => show W.cell? ⟨b1, o1 + f, none⟩ = some (.int .i64 0) from by have := hz1 f hf; rw [hk f hf h1 h2] at this; exact cupx h this)
 have KS := hid (fun W (h : Below w.heap.size w W) i (hi : i < p.slots.length) => show W.rangeAt g2 (i * 7) (cf 6 p.slots[i]) from six_of (fun j v hv => by
  have hj : j < 7 := by have := (List.getElem?_eq_some_iff.1 hv).1; rw [cf_len] at this; exact this
  have := cupx h (BT.out.slotsAt e2 hi hj)
  rw [this, ← hv, cf_at 7 _ j hj]))
 have HO := hid (fun W (h : Below w.heap.size w W) => show Calls Tryz.prog 76 #[.pointer (some ⟨wb, 0, none⟩), .int .i64 s] W fun r w' => r = .returned (.int .i64 0) ∧ W = w' from by have := open_ref wb V p s W ((BT.out.below h).view hp hl) hsk; rw [h0] at this; exact this)
 have HC := hid hc
 have HE2 := hid e2
 have f1 : decide ((s : Int) < 0) = false := decide_eq_false (by omega)
 have f2 : decide ((p.slots.length : Int) ≤ (s : Int)) = false := decide_eq_false (by omega)
 have f2n : decide (p.slots.length ≤ s) = false := decide_eq_false (by omega)
 have f5n : decide (p.kinds.length < b + n) = false := decide_eq_false (by omega)
 have f3 : decide ((b : Int) < 0) = false := decide_eq_false (by omega)
 have f4 : decide ((n : Int) < 1) = false := decide_eq_false (by omega)
 have f5 : decide ((p.kinds.length : Int) < (b : Int) + (n : Int)) = false := decide_eq_false (by omega)
 have wbn : IntKind.i64.wrap ((b : Int) + (n : Int)) = (b : Int) + (n : Int) := wraps_i64 _ (by omega) (by omega)
 clear ha h0 hk hc hz1 hq1 e1 e2 bt HV
 have HSK := hid hsk
 clear hsk
 go_enter Tryz.func126, Tryz.ntmps126
 go_upto_region 1 with fail
 refine wp_region_quiet_lit (by kernel_rfl) (by kernel_rfl) ?_
 repeat (first | go_big_quiet_skip | (go_big_quiet_want; go_big_quiet_op; first | go_big_quiet_on | go_big_quiet_call (fail)))
 refine wpQuiet_nil ?_
 intro _ hw'
 obtain ⟨nq, hw''⟩ := hw'
 subst hw''
 have B1 := hid (below_drewN (Below.refl w.heap.size w) nq)
 clear f1 f2 f2n f3 f4 f5 f5n
 obtain ⟨x0, x1, x2, y1, y2⟩ := KC.out _ B1.out
 clear a0 a1 a2 c1 c2
 generalize w.drewN nq = w1 at *
 go_wp2_with fail
 refine (HO.out _ B1.out).mono ?_
 rintro r w2 ⟨rfl, rfl⟩
 go_wp2_with fail
 clear x0 x1 x2 y1 y2
 go_loopw [6] (fun i wr => ∃ (m : Nat), b ≤ m ∧ m ≤ b + n ∧ i = .int .i64 (m : Int) ∧ Hid (Below w.heap.size w wr)) (fun i _ => b + n - (intOf i).toNat)
 case atStart => exact ⟨b, by omega, by omega, rfl, B1⟩
 case round =>
  obtain ⟨m, hm1, hm2, rfl, BR⟩ := hrel
  obtain ⟨x0, x1, x2, y1, y2⟩ := KC.out _ BR.out
  clear B1
  by_cases hlt : m < b + n
  rotate_left
  ·obtain rfl : m = b + n := by omega
   have hge : decide (((b + n : Nat) : Int) < (b : Int) + (n : Int)) = false := decide_eq_false (by omega)
   clear hlt
   go_upto_region 7 with fail
   refine wp_region_quiet_lit (by kernel_rfl) (by kernel_rfl) ?_
   repeat (first | go_big_quiet_skip | (go_big_quiet_want; go_big_quiet_op; first | go_big_quiet_on | go_big_quiet_call (fail)))
   refine wpQuiet_nil ?_
   intro _ hw'
   obtain ⟨nq, hw''⟩ := hw'
   subst hw''
   have B3 := hid (below_drewN BR.out nq)
   clear x0 x1 x2 y1 y2
   obtain ⟨x0, x1, x2, y1, y2⟩ := KC.out _ B3.out
   generalize wr.drewN nq = w3 at *
   clear x1 x2 y1 hge
   go_upto_region 17 with fail
   have BD : Hid (Below w3.heap.size w3 w3.drew) := hid (below_drew w3 1)
   have B4 := hid (btr B3.out BD.out)
   have BT4 := hid (BT.out.below B4.out)
   have I2 := BT4.out.o.slots
   rw [HE2.out] at I2
   have TH := hid (I2.there (s * 7) 7 (by show s * 7 + 7 ≤ p.slots.length * 7; omega))
   have K2 := hid (BT4.out.slotsRow HE2.out hs (clk b n))
   have hs3 : (s : Int) < (p.slots.length : Int) := by omega
   clear I2 x0 y2
   refine Rf.wp_region_H (R := fun W => Below w.heap.size w W) [16] [0, 1, 2, 3, 4, 5, 6, 7, 8, 9, 10, 11, 12, 13, 14, 15] 1 (by kernel_rfl) B4.out (by kernel_rfl) (by kernel_rfl) (by kernel_rfl) (fun _ => ?_)
   repeat (refine Rf.rd_st rfl (by rfl) (fun _ _ _ _ h => h) ?_; apply Exists.intro; refine ⟨fun W h => ?_, ?_⟩; (focus (obtain ⟨h1, h2, h3, h4, h5⟩ := KC.out _ h; clear h; go_simp; try rfl)); simp only [jj])
   refine Rf.rd_nil ?_
   generalize w3.drew = w5 at *
   refine Rf.wpAnyF_ready (rs := [16]) (by kernel_rfl) (by simp) (Rf.AllReadyF.cons rfl (fun K hK => ?_) Rf.AllReadyF.nil)
   refine wnt (by rfl) ?_
   simp only [List.getElem_toArray, List.getElem_cons_succ, List.getElem_cons_zero]
   refine wp_store_mid 80 _ _ rfl g2 (s * 7) (cf 7 (clk b n)).toArray rfl rfl TH.out (by rw [info7s]; rfl) (all_oneCell_toArray (cf_one 7 _)) ?_
   refine hK.out _ _ trivial (Rf.notClean (by kernel_rfl)) (fun _ _ => ?_)
   clear hK K
   try simp only [jj]
   refine Rf.wpAnyF_done (by kernel_rfl) ?_ _
   have OUT := hid (show BoxT (w5.setCells g2 (s * 7) (cf 7 (clk b n))) wb tag V { p with slots := p.slots.set s (clk b n) } ∧ Kt tag tag w (w5.setCells g2 (s * 7) (cf 7 (clk b n))) from ⟨K2.out.1, (Kt.below B4.out).trans K2.out.2⟩)
   clear K2 TH BT4
   generalize w5.setCells g2 (s * 7) (cf 7 (clk b n)) = W9 at OUT ⊢
   go_wp2_with fail
   go_ret
   exact ⟨rfl, OUT.out⟩
  have hlt2 : (m : Int) < (b : Int) + (n : Int) := by omega
  have hd : decide ((m : Int) < (b : Int) + (n : Int)) = true := decide_eq_true hlt2
  have hf : (m : Int) < (p.kinds.length : Int) := by omega
  go_upto_region 7 with fail
  refine wp_region_quiet_lit (by kernel_rfl) (by kernel_rfl) ?_
  repeat (first | go_big_quiet_skip | (go_big_quiet_want; go_big_quiet_op; first | go_big_quiet_on | go_big_quiet_call (fail)))
  refine wpQuiet_nil ?_
  intro _ hw'
  obtain ⟨nq, hw''⟩ := hw'
  subst hw''
  have B3 := hid (below_drewN BR.out nq)
  clear x0 x1 x2 y1 y2
  obtain ⟨x0, x1, x2, y1, y2⟩ := KC.out _ B3.out
  have z1 := KK.out _ B3.out m (by omega) hm1 hlt
  generalize wr.drewN nq = w3 at *
  clear BR
  go_wp2_with fail
  clear x0 x1 x2 y1 y2 z1
  go_loopw [7] (fun i wr => ∃ (j : Nat), j ≤ p.slots.length ∧ i = .int .i64 (j : Int) ∧ Hid (Below w.heap.size w wr)) (fun i _ => p.slots.length - (intOf i).toNat)
  case atStart => exact ⟨0, by omega, rfl, B3⟩
  case round =>
   clear B3
   obtain ⟨j, hj, rfl, BI⟩ := hrel
   obtain ⟨x0, x1, x2, y1, y2⟩ := KC.out _ BI.out
   by_cases hlj : j < p.slots.length
   rotate_left
   ·obtain rfl : j = p.slots.length := by omega
    have hge : ¬ ((p.slots.length : Int) < (p.slots.length : Int)) := by omega
    go_wp2_with fail
    exact ⟨⟨m + 1, by omega, by omega, by go_num, BI⟩, by simp [intOf]; omega⟩
   have hlj2 : (j : Int) < (p.slots.length : Int) := by omega
   have RJ := hid (KS.out _ BI.out j hlj)
   have NE := hid (HC.out j hlj)
   generalize p.slots[j] = sj at RJ NE
   generalize wr = w4 at *
   have h1 : (sj 0 == 1) = false := by have := NE.out; simpa using this
   have B5 := hid (bal BI.out (.cells #[.int .i64 0, .int .i64 0, .int .i64 0, .int .i64 0, .int .i64 0, .int .i64 0] 78))
   have HTK := hid (there_new w4 #[.int .i64 0, .int .i64 0, .int .i64 0, .int .i64 0, .int .i64 0, .int .i64 0] 78 w4.heap.size 6 rfl (by decide))
   have GE := hid (show w.heap.size ≤ w4.heap.size from BI.out.size)
   go_upto_region 15 with (first | ((with_reducible (show wpList _ _ _ (⟨_, Op.load 78 _, _, _, _, _⟩ :: _) _ _)); refine wp_ldK rfl _ rfl g2 (j * 7) rfl (cf 6 sj) (cf_len _ _) RJ.out ?_) | ((with_reducible (show wpList _ _ _ (⟨_, Op.store 78 _ _, _, _, _, _⟩ :: _) _ _)); refine wp_stK rfl _ _ rfl w4.heap.size 0 rfl (cf 6 sj) rfl (cf_len _ _) (cf_one _ _) HTK.out ?_))
   have KX := hid (show Kp (fun k => k = w4.heap.size) (w4.alloc (.cells #[.int .i64 0, .int .i64 0, .int .i64 0, .int .i64 0, .int .i64 0, .int .i64 0] 78)) ((w4.alloc (.cells #[.int .i64 0, .int .i64 0, .int .i64 0, .int .i64 0, .int .i64 0, .int .i64 0] 78)).setCells w4.heap.size 0 (cf 6 sj)) from Kp.setCells (T := fun k => k = w4.heap.size) (.inl rfl) _ _ _ (Kp.refl _ _))
   have B6 := hid (KX.out.below B5.out B5.out.size (fun k hk e => by have := GE.out; omega))
   have r0 := World.rangeAt_setCells_same _ w4.heap.size 0 (cf 6 sj) HTK.out 0 _ (cf_at 6 sj 0 (by omega))
   rw [Nat.add_zero] at r0
   clear KX HTK B5 RJ GE x0 x1 x2 y1 y2
   generalize World.setCells _ _ _ _ = W6 at B6 r0 ⊢
   generalize w4.heap.size = kb at r0 ⊢
   go_wp2_with fail
   exact ⟨⟨j + 1, by omega, by go_num, B6⟩, by simp [intOf]; omega⟩
end Go.Proofs.YtaejnmmpddbbjaaGreatDoor.Wd
