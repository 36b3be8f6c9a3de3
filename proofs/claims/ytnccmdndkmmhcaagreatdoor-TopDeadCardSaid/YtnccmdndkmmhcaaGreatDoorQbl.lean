/- Qbl -/
import Derived.Test.YtnccmdndkmmhcaaGreatDoorQbk
set_option maxRecDepth 100000
set_option maxHeartbeats 16000000
namespace Go.Proofs.YtnccmdndkmmhcaaGreatDoor
namespace Wd
open Go.RowKit Mem Bw Nums Mmu
theorem pK (p:PW) (n a:Int):(sAt p n a).2=0∨(sAt p n a).2=2∨(sAt p n a).2=3:=by
 unfold sAt;split
 ·split
  ·split
   ·exact .inl rfl
   ·split
    ·exact .inl rfl
    ·exact .inr (.inr rfl)
  ·exact .inr (.inl rfl)
 ·exact .inr (.inr rfl)
theorem gE (p:PW) (n a k r:Int):0<=(kAt p n a k r).2∧(kAt p n a k r).2<=13:=by
 unfold kAt;by_cases h:(sAt p n a).2=0
 ·rw[ag h];unfold kOf;split
  ·decide
  ·split
   ·split
    ·exact⟨Int.le_refl 0,show (0:Int)<=13 by decide⟩
    ·decide
   ·decide
 ·rw[ae h];have:=pK p n a;show 0<=(sAt p n a).2∧(sAt p n a).2<=13
  omega
theorem kB {p:PW} (h:Lw p) {n a k r:Int} (hk:2<=k) (e:(kAt p n a k r).2=0):∃f:Nat,(kAt p n a k r).1 1=f∧p.k f=k:=by
 obtain⟨t,l⟩:=h.m.keys;unfold kAt at e ⊢;by_cases h0:(sAt p n a).2=0
 ·rw[ag h0] at e ⊢;generalize (sAt p n a).1.toNat=i at e ⊢;have b:∀j,j<6->p.IA.getD i fv j=p.s i j:=fun j q=>by
   show p.IA.getD i fv j=p.IA.getD i eS j
   rw[aa,aa]
   cases p.IA[i]? with
   |some x=>rfl
   |none=>show fv j=eS j;unfold fv eS;rw[ae oA]
  unfold kOf at e ⊢;have s0:=b 0 oD;have o:=b 1 oD;by_cases c0:p.IA.getD i fv 0=0
  ·rw[ag c0] at e;cases e
  rw[ae c0] at e ⊢;by_cases c1:p.IA.getD i fv 0=k
  ·rw[ag c1] at e ⊢;split at e
   ·rename_i c2;rw[ag c2];have c:=(l.key i (by rw[<-s0];exact c0)).is;rw[<-s0, <-o,c1] at c;obtain⟨f,d,_,g⟩:=fd (c.resolve_left oA);exact⟨f,d,g⟩
   ·cases e
  ·rw[ae c1] at e;cases e
 ·rw[ae h0] at e;exact absurd e h0
theorem wv {p:PW} (h:Lw p) {f j:Nat} (a:p.k f=4) (i:j<16) (c:p.IE.getD (f*16+j) 0≠0):∃t:Nat,p.IE.getD (f*16+j) 0=32768+t∧p.k t=3:=by
 have lf:=h.m.tk.lf;have g:=iM (p:=p) (f:=f) (by rw[a];decide);have hl:f*16+j<p.IE.length:=by have:=lf.IE;omega
 have b1:=(gf.1 (h.m.IE.e _ hl)).1 (by rw[show (f*16+j)/16=f by omega];exact a);obtain⟨t,d,_,b⟩:=fd (b1.resolve_left c);exact⟨t,oA,b⟩
theorem Cy (wb:Nat) (tag:Nat->Nat) (V:Nat->Value) (p:PW) (d:Int) (g:Nat->Int) (w:World) (bt:cb w wb tag V p) (D:Lv p) (hg:∀k,k<8->0<=g k∧g k<=65535):
  Calls Tryz.prog 238 #[.pointer (some ⟨wb,0,none⟩),.int .i64 d,.agg (cf 8 g).toArray] w fun r w'=>Okd p wb tag w r w':=by
 have lf:=D.w.m.tk.lf;have HV:=hid (bt.view D.w.fits D.w.I0);have y:=hid bt;have c:=hid D;obtain⟨F,k0,e0⟩:∃g cap,V 0=.slice (some ⟨g,0,none⟩) p.IE.length cap:=bt.o.IE.form (by have:=lf.IE;have:=lf.k1;show 0<p.IE.length;omega)
 have M:=hid e0;have S:=hid (bal (af w.heap.size w) (.cells (cf 8 g).toArray 35));have Y:=hid (hZ w (cf 8 g) 35 _ rfl);obtain⟨a,ha⟩:∃a:Nat,g 3=a:=⟨(g 3).toNat,by have:=(hg 3 oD).1;omega⟩
 have a5:a<=65535:=by have:=(hg 3 oD).2;omega
 have t2:=ai Y (dk 8 g 2 oD);have KA:=hid (fE wb V p d (g 2) 4 2 _ (HV.below S) D.s);have ER:=hid (gE p d (g 2) 4 2);have ET:=hid (fun h=>kB D.w (n:=d) (a:=g 2) (k:=4) (r:=2) oD h);have S0:=hid (show (w.alloc (.cells (cf 8 g).toArray 35)).heap.size=w.heap.size+1 by simp);go_enter Tryz.func238,Tryz.ntmps238
 go_wp2_with fail
 generalize World.alloc _ _=w1 at S Y t2 KA S0 ⊢;refine KA.mono ?_;rintro r w2 ⟨rfl,hb⟩;have B2:=hid (btr S hb);have T2:=hid (bK Y hb);have S2:=hid (show w.heap.size<w2.heap.size by have:=hb.size;have:=S0.out;omega);generalize (kAt p d (g 2) 4 2).2=E at*;generalize (kAt p d (g 2) 4 2).1=K at*;have K3:=hid (fun o=>aN (T:=fun _=>False) (w:=w) (b:=w2.heap.size) (.inr (Nat.le_of_lt S2)) (cf 6 K) 0 _ ((Kp.IF B2).alloc o));have T3:=hid (fun o=>World.rangeAt_setCells_apart (World.rangeAt_alloc T2 o) w2.heap.size 0 (cf 6 K) (.inl (Nat.ne_of_lt S2)));have X3:=hid (fun z u (hz:6<=z.size)=>World.rangeAt_setCells_same (w2.alloc (.cells z u)) w2.heap.size 0 (cf 6 K) (by rw[ay];exact aP w2 z u _ 6 rfl hz));go_upto_region 2 with ((with_reducible refine gst 32 ?_);refine gS rfl _ _ rfl w2.heap.size 0 rfl (cf 6 K) rfl (ay _ _) (bQ _ _) (aP _ _ _ _ _ oS oD) ?_)
 generalize Z:World.setCells _ _ _ _=x;have N:=hid (show Kp (fun _=>False) w x by rw[<-Z];exact K3 _);have T4:=hid (show x.rangeAt w.heap.size 0 (cf 8 g) by rw[<-Z];exact T3 _);have X4:=hid (show x.rangeAt w2.heap.size 0 (cf 6 K) by rw[<-Z];exact X3 _ _ oS);by_cases hE:E=0
 case neg=>
  have a4:(E==0)=false:=by simp[hE]
  go_wp2_with fail
  refine ar (v:=.int .i64 (E)) (by simp[results,Tryz.results238,go_sem]) rfl ⟨E,rfl,ER.out,du c y N.all⟩
 case pos=>
  subst hE;obtain⟨f,aL,aO⟩:=ET.out rfl;have aj:=hid aO;have I:=ai T4 (dk 8 g 3 oD);rw[ha] at I;by_cases a3:255<a
  ·have aI:(255:Int)<(a:Int):=oA;go_wp2_with fail
   refine ar (v:=.int .i64 (2)) (by simp[results,Tryz.results238,go_sem]) rfl ⟨2,rfl,oD,du c y N.all⟩
  ·have aI:¬(255:Int)<(a:Int):=oA;have lf:=c.w.m.tk.lf;have aQ:=iM (p:=p) (f:=f) (by rw[aj.out];decide);obtain⟨B,al⟩:∃e:Nat,p.IE.getD (f*16+a/16) 0=e:=⟨(p.IE.getD (f*16+a/16) 0).toNat,by
    have:=(c.w.m.IE.w _ (av (show f*16+a/16<p.IE.length by have:=lf.IE;omega))).1;rw[aa,ac (show f*16+a/16<p.IE.length by have:=lf.IE;omega)];simp only[aR];omega⟩
   have ag:=hid (y.below N.all);have ax:∀i,i<p.IE.length->x.cell? ⟨F,i,none⟩=some (.int .i64 (p.IE.getD i 0)):=fun i hi=>by
    obtain⟨q,b,o,k,e,hq,ad⟩:=dM ag.o.IE.1;rw[M.out] at e
    cases e
    have h9:=hq oA
    cases h9
    have h8:=ad i hi;rw[aC] at h8;rw[aa,ac hi];exact h8
   have Q:x.cell? ⟨wb,0,none⟩=some (.slice (some ⟨F,0,none⟩) p.IE.length k0):=by rw[<-M.out];exact ai ag.r rfl
   have y1:x.cell? ⟨w2.heap.size,1,none⟩=some (.int .i64 (f:Int)):=by rw[<-aL];exact ai X4 (dk 6 K 1 oD)
   have P:f*16+a/16<p.IE.length:=by have:=lf.IE;omega
   have J:=ax _ P;rw[al] at J;have a7:(f:Int)<=1000:=by have:=lf.k2;omega
   have ba:(p.IE.length:Int)<=1000:=by have:=lf.IE;have:=lf.k2;omega
   have RC:=hid ax;have ah:=hid al;have a0:=hid P;have a2:=hid aQ;obtain⟨j,hj⟩:∃j:Nat,f*16+a/16=j:=⟨_,rfl⟩
   rw[hj] at J P;have aJ:(j:Int)<(p.IE.length:Int):=oA;have aK:(0:Int)<=(j:Int):=oA;have aT:(f:Int)*16+(a:Int)/16=(j:Int):=oA;have HJ:=hid hj;clear hj P;have KC:=hid (fun W (h:Below x.heap.size x W)=>(⟨cu h I,cu h Q,cu h y1,cu h J⟩:_∧_∧_∧_));go_upto_region 6 with fail
   refine bp oK oK ?_
   repeat (first|go_big_quiet_skip|(go_big_quiet_want;go_big_quiet_op;first|go_big_quiet_on|go_big_quiet_call (fail)))
   refine cU ?_;intro _ G;obtain⟨nq,H⟩:=G;subst H;have U:=hid (aG (af x.heap.size x) nq);clear Q y1 J I;obtain⟨I,Q,y1,J⟩:=KC.out _ U;generalize x.drewN nq=O at*;have BB:=hid (btr N.all U);by_cases an:B=0
   ·subst an;have ad:((((0:Nat):Int))==0)=true:=rfl;go_upto_region 7 with fail
    refine bp oK oK ?_
    repeat (first|go_big_quiet_skip|(go_big_quiet_want;go_big_quiet_op;first|go_big_quiet_on|go_big_quiet_call (fail)))
    refine cU ?_;intro _ G;obtain⟨nq,H⟩:=G;subst H;have C:=hid (aG BB nq);generalize O.drewN nq=A at*;go_wp2_with fail
    refine ar (v:=.int .i64 (9)) (by simp[results,Tryz.results238,go_sem]) rfl ⟨9,rfl,oD,du c y C⟩
   ·have ad:((B:Int)==0)=false:=by simp;omega
    obtain⟨t,aq,aw⟩:=wv c.w (f:=f) (j:=a/16) aj oA (by rw[ah.out];omega);rw[ah.out] at aq;have aV:=iM (p:=p) (f:=t) (by rw[aw];decide);have lf:=c.w.m.tk.lf;obtain⟨m,hm⟩:∃m:Nat,t*16+a%16=m:=⟨_,rfl⟩
    have ab:m<p.IE.length:=by have:=lf.IE;omega
    have aU:(B:Int)%1024*16+(a:Int)%16=(m:Int):=by have:=lf.k2;omega
    have a8:(m:Int)<(p.IE.length:Int):=oA;have a9:(0:Int)<=(m:Int):=oA;have a6:(B:Int)<=65535:=by have:=lf.k2;omega
    obtain⟨pv,ap⟩:∃z,p.IE.getD m 0=z:=⟨_,rfl⟩
    have y3:=cu U (RC.out m ab);rw[ap] at y3;have az:=hid ab;clear aq aw aV lf hm ab ap an aT aJ aK;go_upto_region 7 with fail
    refine bp oK oK ?_
    repeat (first|go_big_quiet_skip|(go_big_quiet_want;go_big_quiet_op;first|go_big_quiet_on|go_big_quiet_call (fail)))
    refine cU ?_;intro _ G;obtain⟨nq,H⟩:=G;subst H;have C:=hid (aG (af O.heap.size O) nq);have b0:=cu C Q;have b3:=cu C y3;have b4:=cu C I;generalize O.drewN nq=A at*;have ae:=hid (btr BB C);by_cases ao:pv=0
    ·have aS:(pv==0)=true:=by simp[ao]
     go_wp2_with fail
     refine ar (v:=.int .i64 (9)) (by simp[results,Tryz.results238,go_sem]) rfl ⟨9,rfl,oD,du c y ae⟩
    ·have aS:(pv==0)=false:=by simp[ao]
     go_upto_region 9 with fail
     have L:=hid (show Below A.heap.size A A.drew from aB A 1);have hW:IntKind.i64.wrap (IntKind.i64.wrap ((B:Int).tmod 1024*16)+(a:Int).tmod 16)=(m:Int):=by
      rw[cY oA,cY oA,show IntKind.i64.wrap ((B:Int)%1024*16)=(B:Int)%1024*16 from bS _ oA oA,aU];exact bS _ oA oA
     have X:=hid (btr ae L);have FZ:=hid (show A.drew.frozen? ⟨F,m,none⟩=false from by
      have h2:=(y.below X).o.IE;rw[M.out] at h2;exact h2.frozen m)
     have aE:=hid ((y.below X).IJ M m 0);have y5:=cu L b3;refine bI (R:=fun W=>W.cell? ⟨wb,0,none⟩=some (.slice (some ⟨F,0,none⟩) p.IE.length k0)∧W.cell? ⟨w.heap.size,3,none⟩=some (.int .i64 (a:Int))) [12] [0,1,2,3,4,5,6,7,8,9,10,11] 1 oK ⟨cu L b0,cu L b4⟩ oK oK oK (fun _=>?_);generalize A.drew=W6 at*
     repeat (refine Rf.rs ?_;simp only[jj])
     refine aM ?_;refine Rf.r1 12 rfl (fun K hK=>?_);have fz:=FZ.out;go_simp
     refine hK _ _ trivial (bX oK) (fun _ _=>?_)
     try simp only[jj]
     refine bc oK ?_ _;obtain⟨aH,aX⟩:=aE.out;generalize W6.setCell ⟨F,m,none⟩ (Value.int IntKind.i64 0)=W7 at*;have HU:=hid (c.JH az);have FW:=hid (fi wb tag V {p with IE:=p.IE.set m 0} 0 (-1) W7 aH (by
      have h:=c.w.fits;exact⟨by show (p.IE.set m 0).length<=_;rw[au];exact h.IE,h.kinds,h.IA,h.IB,h.lines,h.line,h.bits,h.IC,h.ready,h.next,h.ID,h.IG⟩) c.w.I0 (fun l hl e he=>by
      have:=(c.w.tl l hl).t e he;unfold d7 at this;simp only[am,bf] at this;exact this.1.2) (fun z hz=>by
      rcases aZ hz with h|h
      ·have:=c.w.m.IE.w z h;omega
      ·rw[h];decide) (by show (p.IE.set m 0).length<=600;rw[au];have:=c.w.m.tk.lf.IE;have:=c.w.m.tk.lf.k2;omega))
     have aA:=hid ((bj (tag:=tag) X).trans aX);go_wp2_with fail
     refine FW.mono ?_;rintro r W8 ⟨rfl,aY,aF,aW⟩;have aD:=hid (show Bx p wb tag w W8 from⟨aY,V,_,aA.trans aW,aF,HU.out⟩);go_wp2_with fail
     refine ar (v:=.int .i64 (0)) (by simp[results,Tryz.results238,go_sem]) rfl ⟨0,rfl,oD,aD.out⟩
theorem xj {p:PW} (h:Lw p) {n a k r:Int} (hk:2<=k) (e:(kAt p n a k r).2=0):(∃f:Nat,(kAt p n a k r).1 1=f∧p.k f=k)∧0<=(kAt p n a k r).1 4∧(kAt p n a k r).1 4<=7:=by
 refine⟨kB h hk e,?_⟩;obtain⟨t,d⟩:=h.m.keys;unfold kAt at e ⊢;by_cases h0:(sAt p n a).2=0
 ·rw[ag h0] at e ⊢;generalize (sAt p n a).1.toNat=i at e ⊢;have b:∀j,j<6->p.IA.getD i fv j=p.s i j:=fun j q=>by
   show p.IA.getD i fv j=p.IA.getD i eS j
   rw[aa,aa]
   cases p.IA[i]? with
   |some x=>rfl
   |none=>show fv j=eS j;unfold fv eS;rw[ae oA]
  unfold kOf at e ⊢;have s0:=b 0 oD;have o:=b 4 oD;by_cases c0:p.IA.getD i fv 0=0
  ·rw[ag c0] at e;cases e
  rw[ae c0] at e ⊢;by_cases c1:p.IA.getD i fv 0=k
  ·rw[ag c1] at e ⊢;split at e
   ·rename_i c2;rw[ag c2];obtain⟨_,_,_,_,g,l⟩:=nU (d.key i (by rw[<-s0];exact c0)).c (by rw[<-s0];exact c0);show 0<=p.IA.getD i fv 4∧p.IA.getD i fv 4<=7
    rw[o];exact⟨g,l⟩
   ·cases e
  ·rw[ae c1] at e;cases e
 ·rw[ae h0] at e;exact absurd e h0
theorem uZ (wb:Nat) (tag:Nat->Nat) (V:Nat->Value) (p:PW) (d:Int) (g:Nat->Int) (w:World) (bt:cb w wb tag V p) (J:Lv p) (hg:∀k,k<8->0<=g k∧g k<=65535):
  Calls Tryz.prog 237 #[.pointer (some ⟨wb,0,none⟩),.int .i64 d,.agg (cf 8 g).toArray] w fun r w'=>Okd p wb tag w r w':=by
 have lf:=J.w.m.tk.lf;have HV:=hid (bt.view J.w.fits J.w.I0);have C:=hid bt;have y:=hid J;obtain⟨x,k0,e0⟩:∃g cap,V 0=.slice (some ⟨g,0,none⟩) p.IE.length cap:=bt.o.IE.form (by have:=lf.IE;have:=lf.k1;show 0<p.IE.length;omega)
 have P:=hid e0;have B0:=hid (bal (af w.heap.size w) (.cells (cf 8 g).toArray 35));have T0:=hid (hZ w (cf 8 g) 35 _ rfl);obtain⟨a,ha⟩:∃a:Nat,g 3=a:=⟨(g 3).toNat,by have:=(hg 3 oD).1;omega⟩
 have bD:a<=65535:=by have:=(hg 3 oD).2;omega
 have t2:=ai T0 (dk 8 g 2 oD);have KA:=hid (fE wb V p d (g 2) 4 2 _ (HV.below B0) J.s);have ER:=hid (gE p d (g 2) 4 2);have ET:=hid (fun h=>kB J.w (n:=d) (a:=g 2) (k:=4) (r:=2) oD h);have KB:=hid (fun W (h:Below w.heap.size w W)=>fE wb V p d (g 1) 3 2 W (HV.below h) J.s);have EB:=hid (gE p d (g 1) 3 2);have TB:=hid (fun h=>kB J.w (n:=d) (a:=g 1) (k:=3) (r:=2) oD h);have KD:=hid (fun W (h:Below w.heap.size w W)=>fE wb V p d (g 1) 2 1 W (HV.below h) J.s);have ED:=hid (gE p d (g 1) 2 1);have TD:=hid (fun h=>xj J.w (n:=d) (a:=g 1) (k:=2) (r:=1) oD h);have S0:=hid (show (w.alloc (.cells (cf 8 g).toArray 35)).heap.size=w.heap.size+1 by simp);go_enter Tryz.func237,Tryz.ntmps237
 go_wp2_with fail
 generalize World.alloc _ _=w1 at B0 T0 t2 KA S0 ⊢;refine KA.mono ?_;rintro r w2 ⟨rfl,H⟩;have B2:=hid (btr B0 H);have T2:=hid (bK T0 H);have S2:=hid (show w.heap.size<w2.heap.size by have:=H.size;have:=S0.out;omega);generalize (kAt p d (g 1) 3 2).2=F at*;generalize (kAt p d (g 1) 3 2).1=L at*;generalize (kAt p d (g 1) 2 1).2=G at*;generalize (kAt p d (g 1) 2 1).1=M at*;generalize (kAt p d (g 2) 4 2).2=E at*;generalize (kAt p d (g 2) 4 2).1=K at*;have K3:=hid (fun o=>aN (T:=fun _=>False) (w:=w) (b:=w2.heap.size) (.inr (Nat.le_of_lt S2)) (cf 6 K) 0 _ ((Kp.IF B2).alloc o));have T3:=hid (fun o=>World.rangeAt_setCells_apart (World.rangeAt_alloc T2 o) w2.heap.size 0 (cf 6 K) (.inl (Nat.ne_of_lt S2)));have X3:=hid (fun z u (hz:6<=z.size)=>World.rangeAt_setCells_same (w2.alloc (.cells z u)) w2.heap.size 0 (cf 6 K) (by rw[ay];exact aP w2 z u _ 6 rfl hz));go_upto_region 2 with ((with_reducible refine gst 32 ?_);refine gS rfl _ _ rfl w2.heap.size 0 rfl (cf 6 K) rfl (ay _ _) (bQ _ _) (aP _ _ _ _ _ oS oD) ?_)
 generalize aA:World.setCells _ _ _ _=A;have K4:=hid (show Kp (fun _=>False) w A by rw[<-aA];exact K3 _);have T4:=hid (show A.rangeAt w.heap.size 0 (cf 8 g) by rw[<-aA];exact T3 _);have X4:=hid (show A.rangeAt w2.heap.size 0 (cf 6 K) by rw[<-aA];exact X3 _ _ oS);by_cases hE:E=0
 case neg=>
  have bA:(E==0)=false:=by simp[hE]
  go_wp2_with fail
  refine ar (v:=.int .i64 (E)) (by simp[results,Tryz.results237,go_sem]) rfl ⟨E,rfl,ER.out,du y C K4.all⟩
 case pos=>
  subst hE;obtain⟨f,ba,bb⟩:=ET.out rfl;have ax:=hid bb;have t3:=ai T4 (dk 8 g 3 oD);rw[ha] at t3;by_cases bz:255<a
  ·have a9:(255:Int)<(a:Int):=oA;go_wp2_with fail
   refine ar (v:=.int .i64 (2)) (by simp[results,Tryz.results237,go_sem]) rfl ⟨2,rfl,oD,du y C K4.all⟩
  ·have a9:¬(255:Int)<(a:Int):=oA;have lf:=y.w.m.tk.lf;have bH:=iM (p:=p) (f:=f) (by rw[ax.out];decide);have aK:=hid (C.below K4.all);have aZ:∀i,i<p.IE.length->A.cell? ⟨x,i,none⟩=some (.int .i64 (p.IE.getD i 0)):=fun i hi=>by
    obtain⟨q,b,o,k,e,hq,br⟩:=dM aK.o.IE.1;rw[P.out] at e
    cases e
    have h9:=hq oA
    cases h9
    have h8:=br i hi;rw[aC] at h8;rw[aa,ac hi];exact h8
   have O:A.cell? ⟨wb,0,none⟩=some (.slice (some ⟨x,0,none⟩) p.IE.length k0):=by rw[<-P.out];exact ai aK.r rfl
   have y1:A.cell? ⟨w2.heap.size,1,none⟩=some (.int .i64 (f:Int)):=by rw[<-ba];exact ai X4 (dk 6 K 1 oD)
   have t1:=ai T4 (dk 8 g 1 oD);have ag:f*16+a/16<p.IE.length:=by have:=lf.IE;omega
   have bG:(f:Int)<=1000:=by have:=lf.k2;omega
   have bN:(p.IE.length:Int)<=1000:=by have:=lf.IE;have:=lf.k2;omega
   obtain⟨rv,an⟩:∃z,p.IE.getD (f*16+a/16) 0=z:=⟨_,rfl⟩
   have S:=aZ _ ag;rw[an] at S;have bg:0<=rv∧rv<=65535:=by
    rw[<-an,aa,ac ag];exact y.w.m.IE.w _ (av ag)
   obtain⟨bO,bP⟩:=bg;obtain⟨j,hj⟩:∃j:Nat,f*16+a/16=j:=⟨_,rfl⟩
   have a2:=hid (show j/16=f by omega);rw[hj] at S ag an;have bE:(j:Int)<(p.IE.length:Int):=oA;have bF:(0:Int)<=(j:Int):=oA;have bM:(a:Int).tdiv 16=(a:Int)/16:=cd oA;have bR:(f:Int)*16+(a:Int)/16=(j:Int):=oA;have RC:=hid aZ;have HJ:=hid hj;have a0:=hid ag;have az:=hid an;have KC:=hid (fun W (h:Below A.heap.size A W)=>(⟨cu h t3,cu h O,cu h S⟩:_∧_∧_));go_wp2_with fail
   refine (KB.out _ K4.all).mono ?_;rintro r l ⟨rfl,H⟩;have B4:=hid H;have K5:=hid (fun o=>aN (T:=fun _=>False) (w:=A) (b:=l.heap.size) (.inr H.size) (cf 6 L) 0 _ ((Kp.IF H).alloc o));have X5:=hid (fun z u (hz:6<=z.size)=>World.rangeAt_setCells_same (l.alloc (.cells z u)) l.heap.size 0 (cf 6 L) (by rw[ay];exact aP l z u _ 6 rfl hz));have Y5:=hid (fun z u (hz:6<=z.size)=>World.there_setCells (aP l z u _ 6 rfl hz) l.heap.size 0 (cf 6 L));go_upto_region 8 with ((with_reducible refine gst 32 ?_);refine gS rfl _ _ rfl l.heap.size 0 rfl (cf 6 L) rfl (ay _ _) (bQ _ _) (aP _ _ _ _ _ oS oD) ?_)
   generalize aD:World.setCells _ _ _ _=I;have B5:=hid (show Below A.heap.size A I by rw[<-aD];exact (K5.out _).all);have X6:=hid (show I.rangeAt l.heap.size 0 (cf 6 L) by rw[<-aD];exact X5 _ _ oS);have Y6:=hid (show I.there l.heap.size 0 6 by rw[<-aD];exact Y5 _ _ oS);obtain⟨t3,O,S⟩:=KC.out _ B5;have bs:=cu B5 t1;have am:=hid (btr K4.all B5);by_cases hF:F=0
   ·subst hF;obtain⟨t,ao,aY⟩:=TB.out rfl;have x1:I.cell? ⟨l.heap.size,1,none⟩=some (.int .i64 (t:Int)):=by rw[<-ao];exact ai X6 (dk 6 L 1 oD)
    have aJ:=iM (p:=p) (f:=t) (by rw[aY];decide);have bT:(t:Int)<=24:=by have:=y.w.m.tk.lf.k2;omega
    have HT:=hid (show t<p.kinds.length∧p.k t=3 from⟨aJ,aY⟩);by_cases N:rv=0
    ·have a5:=hid N;have aI:(rv==0)=true:=by simp[N]
     go_upto_region 11 with fail
     have B:=hid (show Below I.heap.size I I.drew from aB I 1);have U:=hid (btr am B);have Z:=hid (show I.drew.frozen? ⟨x,j,none⟩=false from by
      have D:=(C.below U).o.IE;rw[P.out] at D;exact D.frozen j)
     have ae:=hid ((C.below U).IJ P j (32768+(t:Int)));have y5:=cu B S;refine bI (R:=fun W=>W.cell? ⟨wb,0,none⟩=some (.slice (some ⟨x,0,none⟩) p.IE.length k0)∧W.cell? ⟨l.heap.size,1,none⟩=some (.int .i64 (t:Int))) [9] [0,1,2,3,4,5,6,7,8] 1 oK ⟨cu B O,cu B x1⟩ oK oK oK (fun _=>?_);generalize I.drew=W6 at*
     repeat (refine Rf.rs ?_;simp only[jj])
     refine aM ?_;refine Rf.r1 9 rfl (fun K hK=>?_);have fz:=Z.out;go_simp
     refine hK _ _ trivial (bX oK) (fun _ _=>?_)
     try simp only[jj]
     refine bc oK ?_ _
     try rw[show IntKind.i64.wrap (32768+(t:Int))=32768+(t:Int) from bS _ oA oA]
     obtain⟨ab,al⟩:=ae.out;generalize W6.setCell ⟨x,j,none⟩ (Value.int IntKind.i64 (32768+(t:Int)))=W7 at*;have ad:=hid (show Bx p wb tag w W7 from⟨tag,V,_,(bj U).trans al,ab,y.word a0 oA (gf.2 ⟨fun _=>.inr (by rw[show 32768+(t:Int) - 32768=t by omega,kW HT.1,HT.2];rfl),fun h=>by rw[a2.out,ax.out] at h;cases h⟩) (fun _=>by rw[az.out,a5.out])⟩);go_wp2_with fail
     refine ar (v:=.int .i64 (0)) (by simp[results,Tryz.results237,go_sem]) rfl ⟨0,rfl,oD,ad.out⟩
    ·have aI:(rv==0)=false:=by simp[N]
     go_wp2_with fail
     refine ar (v:=.int .i64 (12)) (by simp[results,Tryz.results237,go_sem]) rfl ⟨12,rfl,oD,du y C am⟩
   ·have bB:(F==0)=false:=by simp[hF]
    have a8:=X6;go_wp2_with fail
    refine (KD.out _ am).mono ?_;rintro r w6 ⟨rfl,H⟩;have B6:=hid (btr B5 H);have Y7:=hid (d9 (T:=fun _=>False) Y6 (.IF H) id);have K7:=hid (aN (T:=fun _=>False) (w:=A) (b:=l.heap.size) (.inr B4.size) (cf 6 M) 0 _ (Kp.IF B6));have X7:=hid (World.rangeAt_setCells_same w6 l.heap.size 0 (cf 6 M) (by rw[ay];exact Y7));clear H t3 O S t1 bs KD TB EB X6 a8 Y6 B6;go_upto_region 14 with ((with_reducible refine gst 32 ?_);refine gS rfl _ _ rfl l.heap.size 0 rfl (cf 6 M) rfl (ay _ _) (bQ _ _) Y7 ?_)
    generalize World.setCells w6 _ _ _=W7 at K7 X7 ⊢;clear Y7 B5 am;have B7:=hid K7.all;have aw:=hid (btr K4.all B7);clear K7;obtain⟨t3,O,S⟩:=KC.out _ B7;by_cases hG:G=0
    case neg=>
     have bC:(G==0)=false:=by simp[hG]
     go_wp2_with fail
     refine ar (v:=.int .i64 (G)) (by simp[results,Tryz.results237,go_sem]) rfl ⟨G,rfl,ED.out,du y C aw⟩
    case pos=>
     subst hG;obtain⟨⟨c,aW,aE⟩,ap,bU⟩:=TD.out rfl;have aV:=iM (p:=p) (f:=c) (by rw[aE];decide);have bv:(c:Int)<=24:=by have:=y.w.m.tk.lf.k2;omega
     have x1:W7.cell? ⟨l.heap.size,1,none⟩=some (.int .i64 (c:Int)):=by rw[<-aW];exact ai X7 (dk 6 M 1 oD)
     have x4:=ai X7 (dk 6 M 4 oD);generalize M 4=Y at*;have aO:=hid (show c<p.kinds.length∧p.k c=2 from⟨aV,aE⟩);clear aW aE aV TD ED X7;by_cases N:rv=0
     ·have aI:(rv==0)=true:=by simp[N]
      clear N;go_wp2_with fail
      refine ar (v:=.int .i64 (9)) (by simp[results,Tryz.results237,go_sem]) rfl ⟨9,rfl,oD,du y C aw⟩
     ·have aI:(rv==0)=false:=by simp[N]
      obtain⟨t,ao,aX⟩:=wv y.w (f:=f) (j:=a/16) ax oA (by rw[HJ.out,az.out];exact N);rw[HJ.out,az.out] at ao;have aJ:=iM (p:=p) (f:=t) (by rw[aX];decide);have lf:=y.w.m.tk.lf;obtain⟨m,hm⟩:∃m:Nat,t*16+a%16=m:=⟨_,rfl⟩
      have aF:m<p.IE.length:=by have:=lf.IE;omega
      have aR:=hid (show m/16=t∧p.k t=3 by omega);have bh:rv%1024*16+(a:Int)%16=(m:Int):=by have:=lf.k2;omega
      have bJ:(m:Int)<(p.IE.length:Int):=oA;have bL:(0:Int)<=(m:Int):=oA;obtain⟨pv,aH⟩:∃z,p.IE.getD m 0=z:=⟨_,rfl⟩
      have y3:=cu B7 (RC.out m aF);rw[aH] at y3;have aS:=hid aF;have a4:=hid aH;clear ao aX aJ lf hm aF aH N;go_upto_region 18 with fail
      refine bp oK oK ?_
      repeat (first|go_big_quiet_skip|(go_big_quiet_want;go_big_quiet_op;first|go_big_quiet_on|go_big_quiet_call (fail)))
      refine cU ?_;intro _ bk;obtain⟨nq,bn⟩:=bk;subst bn;have B8:=hid (aG (af W7.heap.size W7) nq);have z0:=cu B8 O;have z3:=cu B8 y3;have z1:=cu B8 x1;have z4:=cu B8 x4;clear O y3 S t3 x1 x4 bh;generalize W7.drewN nq=X at*;have aL:=hid (btr aw B8);by_cases ah:pv=0
      case neg=>
       have bf:(pv==0)=false:=by simp[ah]
       clear ah;go_wp2_with fail
       refine ar (v:=.int .i64 (12)) (by simp[results,Tryz.results237,go_sem]) rfl ⟨12,rfl,oD,du y C aL⟩
      case pos=>
       have a3:=hid ah;have bf:(pv==0)=true:=by simp[ah]
       clear ah;have aU:=hid (fun (v:Int) (h1:0<=v∧v<=65535) (D:isB p (v - 32768) 2=true∨isB p (v - 32768 - 16384) 2=true)=>y.word (i:=m) (v:=v) aS h1 (gf.2 ⟨fun h=>(by rw[aR.1,aR.2] at h;cases h),fun _=>.inr D⟩) (fun _=>by rw[a4.out,a3.out]));have aT:=hid (show isB p (c:Int) 2=true by rw[kW aO.1,aO.2];rfl);go_upto_region 21 with fail
       have B:=hid (show Below X.heap.size X X.drew from aB X 1);have U:=hid (btr aL B);have Z:=hid (show X.drew.frozen? ⟨x,m,none⟩=false from by
        have D:=(C.below U).o.IE;rw[P.out] at D;exact D.frozen m)
       have ae:=hid ((C.below U).IJ P m (32768+(c:Int)));have y5:=cu B z3;have bu:=cu B z4;have bW:=cu B z0;have CN:=hid (dy (w:=X.drew) ⟨x,m,none⟩ (.int .i64 (32768+(c:Int))) y5);refine bI (R:=fun W=>W.cell? ⟨wb,0,none⟩=some (.slice (some ⟨x,0,none⟩) p.IE.length k0)∧W.cell? ⟨l.heap.size,1,none⟩=some (.int .i64 (c:Int))) [9] [0,1,2,3,4,5,6,7,8] 1 oK ⟨cu B z0,cu B z1⟩ oK oK oK (fun _=>?_);generalize X.drew=W9 at*
       repeat (refine Rf.rs ?_;simp only[jj])
       refine aM ?_;refine Rf.r1 9 rfl (fun K hK=>?_);have fz:=Z.out;go_simp
       refine hK _ _ trivial (bX oK) (fun _ _=>?_)
       try simp only[jj]
       refine bc oK ?_ _
       try rw[show IntKind.i64.wrap (32768+(c:Int))=32768+(c:Int) from bS _ oA oA]
       obtain⟨ab,al⟩:=ae.out;have KX:=hid (show W9.cell? ⟨l.heap.size,4,none⟩=some (.int .i64 Y)->(W9.setCell ⟨x,m,none⟩ (Value.int IntKind.i64 (32768+(c:Int)))).cell? ⟨l.heap.size,4,none⟩=some (.int .i64 Y) from fun h=>(aQ W9 _ _ _ (by intro e;have:=dG Addr.block e;simp only at this;have h1:=(aj _ _ (RC.out m aS));simp only at h1;have D:=B4.size;omega)).trans h);have bV:=KX.out bu;generalize W9.setCell ⟨x,m,none⟩ (Value.int IntKind.i64 (32768+(c:Int)))=Q at*;have KT:=hid ((bj (tag:=tag) U).trans al);have aq:=hid ab;have O:Q.cell? ⟨wb,0,none⟩=some (.slice (some ⟨x,0,none⟩) p.IE.length k0):=by rw[<-P.out];exact ai ab.r rfl
       have cn:=CN.out;by_cases hw:(Y.tdiv 2).tmod 2=1
       case neg=>
        have ad:=hid (show Bx p wb tag w Q from⟨tag,V,_,KT.out,aq.out,aU.out _ oA (.inl (by rw[show 32768+(c:Int) - 32768=c by omega];exact aT))⟩);have bo:((Y.tdiv 2).tmod 2==1)=false:=by simp[hw]
        have bq:¬Y/2%2=1:=by rw[<-cd ap, <-cY (by rw[cd ap];omega)];exact hw
        clear hw;go_wp2_with fail
        refine ar (v:=.int .i64 (0)) (by simp[results,Tryz.results237,go_sem]) rfl ⟨0,rfl,oD,ad.out⟩
       case pos=>
        have bq:Y/2%2=1:=by rw[<-cd ap, <-cY (by rw[cd ap];omega)];exact hw
        have bo:((Y.tdiv 2).tmod 2==1)=true:=by simp[hw]
        clear hw;go_upto_region 23 with fail
        have BE:=hid (show Below Q.heap.size Q Q.drew from aB Q 1);have E9:=hid (show V 0=.slice (some ⟨x,0,none⟩) (p.IE.set m (32768+(c:Int))).length k0 by rw[au];exact P);have Z:=hid (show Q.drew.frozen? ⟨x,m,none⟩=false from by
         have D:=(aq.below BE).o.IE;rw[E9.out] at D;exact D.frozen m)
        have ae:=hid ((aq.below BE).IJ E9 m (32768+(c:Int)+16384));have y5:=cu BE cn;refine bI (R:=fun W=>W.cell? ⟨wb,0,none⟩=some (.slice (some ⟨x,0,none⟩) p.IE.length k0)∧W.cell? ⟨x,m,none⟩=some (.int .i64 (32768+(c:Int)))) [14] [0,1,2,3,4,5,6,7,8,9,10,11,12,13] 1 oK ⟨cu BE O,y5⟩ oK oK oK (fun _=>?_);generalize Q.drew=a6 at*
        repeat (refine Rf.rs ?_;simp only[jj])
        refine aM ?_;refine Rf.r1 14 rfl (fun K hK=>?_);have fz:=Z.out;go_simp
        refine hK _ _ trivial (bX oK) (fun _ _=>?_);clear hK K fz y5 Z
        try simp only[jj]
        refine bc oK ?_ _
        try rw[show IntKind.i64.wrap (32768+(c:Int)+16384)=32768+(c:Int)+16384 from bS _ oA oA]
        obtain⟨ab,al⟩:=ae.out;generalize a6.setCell ⟨x,m,none⟩ (Value.int IntKind.i64 (32768+(c:Int)+16384))=a7 at*;have ad:=hid (show Bx p wb tag w a7 from⟨tag,V,{p with IE:=p.IE.set m (32768+(c:Int)+16384)},(KT.trans (bj BE)).trans al,by have h:=ab;simp only[eh] at h;exact h,aU.out _ oA (.inr (by rw[show 32768+(c:Int)+16384 - 32768 - 16384=c by omega];exact aT))⟩);go_wp2_with fail
        refine ar (v:=.int .i64 (0)) (by simp[results,Tryz.results237,go_sem]) rfl ⟨0,rfl,oD,ad.out⟩
