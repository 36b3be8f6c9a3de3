/- Qbj -/
import Derived.Test.YtaejnmmpddbbjaaGreatDoorQbi
import Derived.Test.YtaejnmmpddbbjaaGreatDoorQbe
namespace Go.Proofs.YtaejnmmpddbbjaaGreatDoor.Wd
open Go.RowKit Mem Bw Nums Mmu Hex Mad
def q0 (q:Int×Int×Int×Int):Int:=q.1*256+q.2.1*16+q.2.2.1
def q1 (q:Int×Int×Int×Int):Int:=q.2.2.2
theorem q_range {q:Int×Int×Int×Int} (h:GoodQ q):(0≤q0 q∧q0 q≤65535)∧0≤q1 q∧q1 q≤65535:=by
 obtain⟨a,b,c,d⟩:=h;unfold q0 q1;omega
set_option maxHeartbeats 1000000
theorem codeOf_good (q:Int×Int×Int×Int) (w:World) (h:GoodQ q):
  Calls Tryz.prog 75 #[.agg #[.int .i64 q.1,.int .i64 q.2.1,.int .i64 q.2.2.1,.int .i64 q.2.2.2]] w fun e w'=>e=.returned (.agg #[.int .i64 (q0 q),.int .i64 (q1 q)])∧Below w.heap.size w w':=by
 obtain⟨o,a,b,i⟩:=q;obtain⟨⟨c,d⟩,⟨a0,a1⟩,⟨b0,b1⟩,i0,i1⟩:=h;simp only at c d a0 a1 b0 b1 i0 i1 ⊢;have hi:¬i<0:=by omega
 have e1:IntKind.i64.wrap (o*256)=o*256:=cw _ (by omega) (by omega);have e2:IntKind.i64.wrap (a*16)=a*16:=cw _ (by omega) (by omega);have f:IntKind.i64.wrap (o*256+a*16)=o*256+a*16:=cw _ (by omega) (by omega);have e4:IntKind.i64.wrap (o*256+a*16+b)=o*256+a*16+b:=cw _ (by omega) (by omega);go_enter Tryz.func75,Tryz.ntmps75
 go_wp2
 exact aq (v:=.agg #[.int .i64 (o*256+a*16+b),.int .i64 i]) (by simp[results,Tryz.results75,go_sem]) rfl ⟨rfl,bal (bal (aj _ _) _) _⟩
set_option maxHeartbeats 200000
def cdN (ram:List Int) (a:Nat) (zs:List (Int×Int×Int×Int)):Nat→List Int
 |0=>ram
 |k+1=>((cdN ram a zs k).set (a+2*k) (q0 (zs.getD k (0,0,0,0)))).set (a+2*k+1) (q1 (zs.getD k (0,0,0,0)))
theorem cdN_len (ram:List Int) (a:Nat) (zs:List (Int×Int×Int×Int)):∀k,(cdN ram a zs k).length=ram.length
 |0=>rfl
 |k+1=>by rw[cdN,ar,ar,cdN_len ram a zs k]
set_option maxRecDepth 100000
set_option maxHeartbeats 16000000
theorem code_ref (wb:Nat) (tag:Nat→Nat) (V:Nat→Value) (p:PW) (f Q lc:Nat) (zs:List (Int×Int×Int×Int)) (w:World) (an:BoxT w wb tag V p) (hp:p.Fits) (hI:InsAt w Q 0 zs) (ao:tag Q=0) (hz:zs.length≤16) (hg:∀q∈zs,GoodQ q) (hf:f*16+2*zs.length≤p.ram.length) (az:0<p.ram.length):
  Calls Tryz.prog 30 #[.pointer (some ⟨wb,0,none⟩),.int .i64 f,.slice (some ⟨Q,0,none⟩) zs.length lc] w fun r w'=>r=.returned (.tuple #[])∧∃tag',BoxT w' wb tag' V {p with ram:=cdN p.ram (f*16) zs zs.length}∧Kt tag tag' w w':=by
 obtain⟨bt,kr⟩:=retagC an;have TN:=hid (fun x (h:w.heap.size≤x)=>tagC_ge (tag:=tag) h);have LT:=hid (show ∀k,k<w.heap.size→tagC tag w.heap.size k=tag k from fun k h=>tagC_lt h);have KR:=hid kr;have BT:=hid bt;have ay:=hid ao;clear an bt kr ao;generalize tagC tag w.heap.size=tg at*;have aK:=hp.ram;have aM:(p.ram.length:Int)≤1000:=by omega
 have aO:(zs.length:Int)≤16:=by omega
 have G:=hid hI;have HG:=hid hg;have HF:=hid hf;obtain⟨a,ea⟩:∃a,f*16=a:=⟨_,rfl⟩
 have EA:=hid ea;rw[ea];have aF:a+2*zs.length≤p.ram.length:=by omega
 have fa:(f:Int)*16=(a:Int):=by omega
 have FA:=hid fa;obtain⟨c,cap0,e0⟩:∃c cap0,V 0=.slice (some ⟨c,0,none⟩) p.ram.length cap0:=BT.o.ram.form (show 0<p.ram.length from az)
 have S:=hid e0;have X:=hid (fun W q (h:BoxT W wb tg V q)=>show W.cell? ⟨wb,0,none⟩=some (.slice (some ⟨c,0,none⟩) p.ram.length cap0) from by have:=af h.r (k:=0) rfl;rw[e0] at this;exact this);have aG:(f:Int)*16≤1000:=by omega
 clear hI hg hf ea fa e0;go_enter Tryz.func30,Tryz.ntmps30
 go_wp2_with fail
 go_loopw [6] (fun i wr=>∃k:Nat,k≤zs.length∧i=.int .i64 (k:Int)∧Hid (BoxT wr wb tg V {p with ram:=cdN p.ram a zs k})∧Hid (Kt tg tg w wr)) (fun i _=>zs.length - (intOf i).toNat)
 case atStart=>exact⟨0,by omega,rfl,BT,hid (Kt.refl _ _)⟩
 case round=>
  obtain⟨k,hk,rfl,ab,z⟩:=hrel;by_cases C:k<zs.length
  rotate_left
  ·obtain rfl:k=zs.length:=by omega
   have aH:¬((zs.length:Int)<(zs.length:Int)):=by omega
   go_wp2_with fail
   exact aY (aN rfl _ _ _) rfl ⟨rfl,tg,ab.out,KR.trans z⟩
  have aI:(k:Int)<(zs.length:Int):=by omega
  have TL:=hid (show tg Q=0 from by rw[LT.out Q (al _ _ (G.out k C).1)];exact ay);have x0:=z.cell (G.out k C).1 TL;have x1:=z.cell (G.out k C).2.1 TL;have x2:=z.cell (G.out k C).2.2.1 TL;have x3:=z.cell (G.out k C).2.2.2 TL;rw[aC] at x0 x1 x2 x3;have GQ:=hid (HG.out zs[k] (aw C));have QD:=hid (show zs.getD k (0,0,0,0)=zs[k] by rw[aa,ac C];rfl);generalize zs[k]=q at*;go_wp2_with fail
  refine (codeOf_good q wr GQ).mono ?_;rintro r w2 ⟨rfl,hb⟩;have ah:=hid (ab.below hb);have ae:=hid (z.trans (aW (tag:=tg) hb));have GE:=hid (show w.heap.size≤w2.heap.size from ae.k.size);clear hb x0 x1 x2 x3 ab z;have n:=hid (show (w2.alloc (.cells #[.int .i64 (q0 q),.int .i64 (q1 q)] 128)).cell? ⟨w2.heap.size,0,none⟩=some (.int .i64 (q0 q))∧(w2.alloc (.cells #[.int .i64 (q0 q),.int .i64 (q1 q)] 128)).cell? ⟨w2.heap.size,1,none⟩=some (.int .i64 (q1 q)) from⟨by rw[cJ];rfl,by rw[cJ];rfl⟩);have Z:=hid (show Below w2.heap.size w2 (w2.alloc (.cells #[.int .i64 (q0 q),.int .i64 (q1 q)] 128)) from bal (aj _ _) _);have L:=hid (TN.out w2.heap.size GE);have ad:=hid (ah.below Z);have ag:=hid (ae.trans (aW (tag:=tg) Z));have ap:(cdN p.ram a zs k).length=p.ram.length:=cdN_len _ _ _ _;have T:=hid ap;clear ah ae Z ap;go_upto_region 4 with fail
  generalize w2.alloc _=t at n ad ag ⊢;generalize w2.heap.size=b at n L ⊢;have e:Hid (Below t.heap.size t t.drew):=hid (aA t 1);have j:=hid (ad.below e);have I:=hid (ag.trans (aW (tag:=tg) e));have l:=hid (show t.drew.cell? ⟨b,0,none⟩=some (.int .i64 (q0 q))∧t.drew.cell? ⟨b,1,none⟩=some (.int .i64 (q1 q)) from⟨cupx e n.1,cupx e n.2⟩);obtain⟨d,N⟩:∃d,a+2*k=d:=⟨_,rfl⟩
  have hd:(d:Int)<(p.ram.length:Int):=by omega
  have M:(f:Int)*16+2*(k:Int)=(d:Int):=by have:=FA.out;omega
  have D:=hid M;have E:=hid N;have m:=hid (j.ramCell (g:=c) (cap:=cap0) (by rw[show ({p with ram:=(cdN p.ram a zs k)}:PW).ram.length=p.ram.length from T];exact S) d (q0 q));have s:=j.o.ram;rw[S.out,show ({p with ram:=(cdN p.ram a zs k)}:PW).ram.length=p.ram.length from T] at s;have H:=hid (Option.isSome_iff_exists.1 (s.there d 1 (by omega) 0 (by omega)).1);have F:=hid (s.frozen d);clear s M N
  skip
  refine aX (R:=fun W=>W.cell? ⟨wb,0,none⟩=some (.slice (some ⟨c,0,none⟩) p.ram.length cap0)∧W.cell? ⟨b,0,none⟩=some (.int .i64 (q0 q))∧W.cell? ⟨b,1,none⟩=some (.int .i64 (q1 q))) [12] [0,1,2,3,4,5,6,7,8,9,10] 2 (by kernel_rfl) ⟨X.out _ _ j,l.out⟩ (by kernel_rfl) (by kernel_rfl) (by kernel_rfl) (fun _=>?_)
  repeat (refine aJ rfl (by rfl) (fun _ _ _ _ h=>h) ?_;apply Exists.intro;refine⟨fun W h=>?_,?_⟩;(focus (obtain⟨h1,h2,h3⟩:=h;go_simp;try rfl));simp only[jj])
  refine aE ?_
  try simp only[show IntKind.i64.wrap ((f:Int)*16)=(f:Int)*16 from cw _ (by omega) (by omega),show IntKind.i64.wrap (2*(k:Int))=2*(k:Int) from cw _ (by omega) (by omega),show IntKind.i64.wrap ((f:Int)*16+2*(k:Int))=(f:Int)*16+2*(k:Int) from cw _ (by omega) (by omega)]
  rw[D.out];refine aZ (R:=fun W=>W.cell? ⟨wb,0,none⟩=some (.slice (some ⟨c,0,none⟩) p.ram.length cap0)∧W.cell? ⟨b,0,none⟩=some (.int .i64 (q0 q))∧W.cell? ⟨b,1,none⟩=some (.int .i64 (q1 q))) (by kernel_rfl) _ ⟨X.out _ _ j,l.out⟩ [11] 1 _ _ (by kernel_rfl) ?_
  repeat (refine aJ rfl (by rfl) (fun _ _ _ _ h=>h) ?_;apply Exists.intro;refine⟨fun W h=>?_,?_⟩;(focus (clear h;go_simp;try rfl));simp only[jj])
  refine aE ?_;obtain⟨u,P⟩:=H.out;rw[bz] at P;have fz:=F.out;have y:=hid m.1;have A:=hid (I.trans m.2);have B:=hid (show (t.drew.setCell ⟨c,d,none⟩ (.int .i64 (q0 q))).cell? ⟨b,0,none⟩=some (.int .i64 (q0 q))∧(t.drew.setCell ⟨c,d,none⟩ (.int .i64 (q0 q))).cell? ⟨b,1,none⟩=some (.int .i64 (q1 q)) from⟨m.2.cell l.1 L,m.2.cell l.2 L⟩);have J:=hid (show ((cdN p.ram a zs k).set d (q0 q)).length=p.ram.length by rw[ar];exact T);clear m j I l ad ag T e n H F;generalize t.drew=v5 at*;refine Rf.r1 12 rfl (fun K O=>?_);refine wnt (by rfl) ?_;go_simp
  refine O _ _ trivial (bF (by kernel_rfl)) (fun _ _=>?_);clear O K P fz u
  try simp only[jj]
  refine aL (by kernel_rfl) ?_ _;generalize v5.setCell ⟨c,d,none⟩ _=v at y A B ⊢;have ai:=y;have am:=A;have U:=J;have n:=B;have au:=E;clear y A J B E hd;generalize d=Y at*;clear D;have e:Hid (Below v.heap.size v v.drew):=hid (aA v 1);have j:=hid (ai.below e);have I:=hid (am.trans (aW (tag:=tg) e));have l:=hid (show v.drew.cell? ⟨b,0,none⟩=some (.int .i64 (q0 q))∧v.drew.cell? ⟨b,1,none⟩=some (.int .i64 (q1 q)) from⟨cupx e n.1,cupx e n.2⟩);obtain⟨d,N⟩:∃d,a+2*k+1=d:=⟨_,rfl⟩
  have hd:(d:Int)<(p.ram.length:Int):=by omega
  have M:(f:Int)*16+2*(k:Int)+1=(d:Int):=by have:=FA.out;omega
  have D:=hid M;have E:=hid N;have m:=hid (j.ramCell (g:=c) (cap:=cap0) (by rw[show ({p with ram:=((cdN p.ram a zs k).set Y (q0 q))}:PW).ram.length=p.ram.length from U];exact S) d (q1 q));have s:=j.o.ram;rw[S.out,show ({p with ram:=((cdN p.ram a zs k).set Y (q0 q))}:PW).ram.length=p.ram.length from U] at s;have H:=hid (Option.isSome_iff_exists.1 (s.there d 1 (by omega) 0 (by omega)).1);have F:=hid (s.frozen d);clear s M N;go_upto_region 5 with fail
  refine aX (R:=fun W=>W.cell? ⟨wb,0,none⟩=some (.slice (some ⟨c,0,none⟩) p.ram.length cap0)∧W.cell? ⟨b,0,none⟩=some (.int .i64 (q0 q))∧W.cell? ⟨b,1,none⟩=some (.int .i64 (q1 q))) [13] [0,1,2,3,4,5,6,7,8,9,10,11] 2 (by kernel_rfl) ⟨X.out _ _ j,l.out⟩ (by kernel_rfl) (by kernel_rfl) (by kernel_rfl) (fun _=>?_)
  repeat (refine aJ rfl (by rfl) (fun _ _ _ _ h=>h) ?_;apply Exists.intro;refine⟨fun W h=>?_,?_⟩;(focus (obtain⟨h1,h2,h3⟩:=h;go_simp;try rfl));simp only[jj])
  refine aE ?_
  try simp only[show IntKind.i64.wrap ((f:Int)*16)=(f:Int)*16 from cw _ (by omega) (by omega),show IntKind.i64.wrap (2*(k:Int))=2*(k:Int) from cw _ (by omega) (by omega),show IntKind.i64.wrap ((f:Int)*16+2*(k:Int))=(f:Int)*16+2*(k:Int) from cw _ (by omega) (by omega),show IntKind.i64.wrap ((f:Int)*16+2*(k:Int)+1)=(f:Int)*16+2*(k:Int)+1 from cw _ (by omega) (by omega)]
  rw[D.out];refine aZ (R:=fun W=>W.cell? ⟨wb,0,none⟩=some (.slice (some ⟨c,0,none⟩) p.ram.length cap0)∧W.cell? ⟨b,0,none⟩=some (.int .i64 (q0 q))∧W.cell? ⟨b,1,none⟩=some (.int .i64 (q1 q))) (by kernel_rfl) _ ⟨X.out _ _ j,l.out⟩ [12] 1 _ _ (by kernel_rfl) ?_
  repeat (refine aJ rfl (by rfl) (fun _ _ _ _ h=>h) ?_;apply Exists.intro;refine⟨fun W h=>?_,?_⟩;(focus (clear h;go_simp;try rfl));simp only[jj])
  refine aE ?_;obtain⟨u,P⟩:=H.out;rw[bz] at P;have fz:=F.out;have y:=hid m.1;have A:=hid (I.trans m.2);have B:=hid (show (v.drew.setCell ⟨c,d,none⟩ (.int .i64 (q1 q))).cell? ⟨b,0,none⟩=some (.int .i64 (q0 q))∧(v.drew.setCell ⟨c,d,none⟩ (.int .i64 (q1 q))).cell? ⟨b,1,none⟩=some (.int .i64 (q1 q)) from⟨m.2.cell l.1 L,m.2.cell l.2 L⟩);have J:=hid (show (((cdN p.ram a zs k).set Y (q0 q)).set d (q1 q)).length=p.ram.length by rw[ar];exact U);clear m j I l ai am U e n H F;generalize v.drew=v5 at*;refine Rf.r1 13 rfl (fun K O=>?_);refine wnt (by rfl) ?_;go_simp
  refine O _ _ trivial (bF (by kernel_rfl)) (fun _ _=>?_);clear O K P fz u
  try simp only[jj]
  refine aL (by kernel_rfl) ?_ _;generalize v5.setCell ⟨c,d,none⟩ _=y4 at y A B ⊢;have aq:=y;have aB:=A;have aD:=J;have n:=B;have av:=E;clear y A J B E hd;generalize d=d4 at*;clear D;go_wp2_with fail
  have ax:=hid (show cdN p.ram a zs (k+1)=((cdN p.ram a zs k).set Y (q0 q)).set d4 (q1 q) from by rw[cdN,QD.out,av.out,au.out]);exact⟨⟨k+1,by omega,by go_num,hid (by rw[ax.out];exact aq),aB⟩,by simp[intOf];omega⟩
end Go.Proofs.YtaejnmmpddbbjaaGreatDoor.Wd
namespace Go.Proofs.YtaejnmmpddbbjaaGreatDoor.Wd
set_option maxRecDepth 512
set_option maxHeartbeats 200000
def oneQ1:PW:=wlP 24 2 [0]
def oneQ2:PW:={oneQ1 with slots:=oneQ1.slots.set 1 (clk 1 20)}
def oneQ3:PW:=mkP oneQ2 1 (2+((3:Nat):Int)) 1 2
def oneQ4:PW:=mkP oneQ3 1 (2+((2:Nat):Int)) 1 3
def oneQ5:PW:=mkP oneQ4 1 (2+((1:Nat):Int)) 1 4
def oneQ6:PW:=mkP oneQ5 1 (2+((0:Nat):Int)) 4 5
def oneQ7:PW:=mkP oneQ6 1 (2+((4:Nat):Int)) 2 9
def oneQ8:PW:=mkP oneQ7 1 (2+((5:Nat):Int)) 1 11
def oneQ9:PW:=mkP oneQ8 1 (2+((6:Nat):Int)) 1 12
def oneQ10:PW:={oneQ9 with slots:=oneQ9.slots.set 16 (kpS (oneQ9.slots.getD 11 nkey) (Bw.bw 6 ((oneQ9.slots.getD 11 nkey) 4).toNat 7:Nat) 5 11)}
def oneQ11:PW:={oneQ10 with slots:=oneQ10.slots.set 17 (kpS (oneQ10.slots.getD 12 nkey) (Bw.bw 6 ((oneQ10.slots.getD 12 nkey) 4).toNat 7:Nat) 2 12)}
def oneQ12:PW:={oneQ11 with slots:=oneQ11.slots.set 18 (kpS (oneQ11.slots.getD 10 nkey) (Bw.bw 6 ((oneQ11.slots.getD 10 nkey) 4).toNat 7:Nat) 0 10)}
def oneQ13:PW:={oneQ12 with slots:=oneQ12.slots.set 19 (kpS (oneQ12.slots.getD 7 nkey) (Bw.bw 6 ((oneQ12.slots.getD 7 nkey) 4).toNat 3:Nat) 0 7)}
def oneQ14:PW:={oneQ13 with slots:=oneQ13.slots.set 20 (kpS (oneQ13.slots.getD 3 nkey) (Bw.bw 6 ((oneQ13.slots.getD 3 nkey) 4).toNat 7:Nat) 0 3)}
def oneQ15:PW:={oneQ14 with slots:=oneQ14.slots.set 21 (kpS (oneQ14.slots.getD 4 nkey) (Bw.bw 6 ((oneQ14.slots.getD 4 nkey) 4).toNat 7:Nat) 0 4)}
def oneQ16:PW:={oneQ15 with slots:=oneQ15.slots.set 22 (kpS (oneQ15.slots.getD 2 nkey) (Bw.bw 6 ((oneQ15.slots.getD 2 nkey) 4).toNat 7:Nat) 0 2)}
def oneQ17:PW:={oneQ16 with slots:=oneQ16.slots.set 23 (kpS (oneQ16.slots.getD 9 nkey) (Bw.bw 6 ((oneQ16.slots.getD 9 nkey) 4).toNat 6:Nat) 0 9)}
def oneQ18:PW:={oneQ17 with ram:=oneQ17.ram.set (2*16+0/16) (32768+((3:Nat):Int))}
def oneQ19:PW:={oneQ18 with ram:=oneQ18.ram.set ((oneQ18.ram.getD (2*16+0/16) 0).toNat%1024*16+0%16) (32768+((0:Nat):Int)*16384+((4:Nat):Int))}
def oneQ20:PW:={oneQ19 with ram:=oneQ19.ram.set ((oneQ19.ram.getD (2*16+1/16) 0).toNat%1024*16+1%16) (32768+((0:Nat):Int)*16384+((5:Nat):Int))}
def oneQ21:PW:={oneQ20 with ram:=oneQ20.ram.set ((oneQ20.ram.getD (2*16+2/16) 0).toNat%1024*16+2%16) (32768+((1:Nat):Int)*16384+((6:Nat):Int))}
def oneQ22:PW:=eqP oneQ21 8 (fun k=>[0,0,2,(-1),0,1,0].getD k 0)
def oneQ23:PW:=eqP oneQ22 9 (fun k=>[0,1,2,10,1,2,0].getD k 0)
def oneQ:PW:=oneQ23
theorem oneP_eq:oneP=oneQ:=by kernel_rfl
end Go.Proofs.YtaejnmmpddbbjaaGreatDoor.Wd
namespace Go.Proofs.YtaejnmmpddbbjaaGreatDoor.Wd
open Go.RowKit Mem Bw Nums Mmu Hex Mad
def ramL (L:Nat→Int):List Int:=(oneQ.ram.take 64++(List.range 32).map L)++oneQ.ram.drop 96
def p0 (L:Nat→Int):PW:={oneQ with ram:=ramL L}
def letters (zs:List (Int×Int×Int×Int)) (i:Nat):Int:=if i%2=0 then q0 (zs.getD (i/2) (0,0,0,0)) else q1 (zs.getD (i/2) (0,0,0,0))
theorem code_letters (zs:List (Int×Int×Int×Int)):cdN oneQ.ram 64 zs 16=ramL (letters zs):=by kernel_rfl
theorem ramL_in {L:Nat→Int} (h:∀i,i<32→0≤L i∧L i≤65535):∀x∈ramL L,0≤x∧x≤65535:=by
 have b:oneQ.ram.all (fun x=>decide (0≤x)&&decide (x≤65535))=true:=by kernel_rfl
 rw[aQ] at b;intro x a;unfold ramL at a;rw[dA,dA] at a;rcases a with (a|a)|a
 ·have:=b x (List.mem_of_mem_take a);simpa using this
 ·obtain⟨i,hi,rfl⟩:=List.mem_map.1 a;exact h i (List.mem_range.1 hi)
 ·have:=b x (List.mem_of_mem_drop a);simpa using this
theorem letters_in {zs:List (Int×Int×Int×Int)} (b:zs.length=16) (a:∀q∈zs,GoodQ q):∀i,i<32→0≤letters zs i∧letters zs i≤65535:=fun i hi=>by
 have hk:i/2<zs.length:=by omega
 have:=q_range (a zs[i/2] (aw hk));unfold letters;rw[aa,ac hk];simp only[aS];split
 ·exact this.1
 ·exact this.2
end Go.Proofs.YtaejnmmpddbbjaaGreatDoor.Wd
namespace Go.Proofs.YtaejnmmpddbbjaaGreatDoor.Wd
open Go.RowKit Mem Bw Nums Mmu
theorem all_getD {α:Type} {l:List α} {f:α→Bool} {d:α} (h:l.all f=true) (a:f d=true) (n:Nat):f (l.getD n d)=true:=by
 rw[aa]
 cases e:l[n]? with
 |none=>exact a
 |some x=>exact aQ.1 h x (dM e)
def dpN (p:PW):Nat→Nat→Nat
 |0,_=>0
 |f+1,i=>if p.s i 6= -1 then 0 else dpN p f (p.s i 6).toNat+1
def ky1 (p:PW) (c i:Nat):Bool:=
 if p.s i 0==0 then (List.range 6).all (fun k=>p.s i k==0)&&p.s i 6== -1
 else p.k (i/16)==5&&kc (p.s i)==0&&decide (p.s i 1+p.s i 2≤(p.kinds.length:Int))&&(p.s i 0==1||isB p (p.s i 1) (p.s i 0))&&(p.s i 6== -1||(decide (0≤p.s i 6)&&p.s (p.s i 6).toNat 0 !=0&&cmB (p.s (p.s i 6).toNat) (p.s i)&&decide (dpN p 8 (p.s i 6).toNat<dpN p 8 i)))&&(p.s i 0 !=1||i==c)&&(p.s i 0==1||p.s i 6 != -1|| !clI (p.s i 1) (p.s c))
def us1 (p:PW) (c n:Nat):Bool:=p.k n==0||(!un n (p.s c)&&(List.range p.slots.length).any fun i=>opn n (p.s i))
def ts1 (p:PW) (n:Nat):Bool:=p.t n 9==0&&p.t n 14== -1&&p.t n 17== -1&&(List.range 20).all fun k=>if p.k n==6 then fOk p k (p.t n k) else p.t n k==bl k
def stB (p:PW) (c:Nat):Bool:=
 ((List.range p.slots.length).all (ky1 p c)&&(List.range p.kinds.length).all (us1 p c))&&((List.range p.kinds.length).all (ts1 p)&&(p.kinds.all fun k=>decide (0≤k∧k≤8∧k≠1))&&p.doms.all fun k=>decide (0≤k∧k≤3))&&((p.lines.all (·.isEmpty)&&p.ready.all (·.isEmpty))&&(p.cores.all (· == -1)&&p.bits.all (· ==0)&&p.tlbs.all (·.isEmpty)))&&(List.range p.ram.length).all fun i=> !beB p (p.k (i/16)) (p.ram.getD i 0)
theorem ky_out {p:PW} {i:Nat} (h:p.slots.length≤i):p.s i=eS:=by
 show p.slots.getD i eS=_
 rw[aa,aH h];rfl
theorem k_out {p:PW} {n:Nat} (h:p.kinds.length≤n):p.k n=0:=by
 show p.kinds.getD n 0=_
 rw[aa,aH h];rfl
theorem lw_of {p:PW} (c:Nat) (Y:∀x∈p.ram,0≤x∧x≤65535) (lf:LF p) (tm:0≤p.time) (h:stB p c=true):Lw p:=by
 unfold stB at h;simp only[am] at h;obtain⟨⟨⟨⟨r,G⟩,⟨P,Q⟩,S⟩,⟨E,U⟩,⟨V,W⟩,N⟩,O⟩:=h;have K:∀i,p.s i 0≠0→ky1 p c i=true∧i<p.slots.length:=fun i hi=>by
  rcases cq i p.slots.length with e|e
  ·exact⟨aQ.1 r i (List.mem_range.2 e),e⟩
  ·rw[ky_out e] at hi;exact absurd rfl hi
 have q:∀i,p.s i 0≠0→p.k (i/16)=5∧KeyOk p (p.s i)∧(p.s i 6= -1∨∃u:Nat,p.s i 6=u∧p.s u 0≠0∧cmB (p.s u) (p.s i)=true∧dpN p 8 u<dpN p 8 i)∧(p.s i 0=1→i=c)∧(p.s i 0≠1→p.s i 6= -1→clI (p.s i 1) (p.s c)=false):=fun i hi=>by
  have hk:=(K i hi).1;unfold ky1 at hk;rw[ae (by simpa using hi)] at hk;simp only[am,cd,bp,bne_iff_ne,aU,dw] at hk;obtain⟨⟨⟨⟨⟨⟨a1,y⟩,A⟩,D⟩,I⟩,J⟩,o⟩:=hk;refine⟨a1,⟨y,A,D⟩,I.imp id fun b=>⟨(p.s i 6).toNat,by omega,b.1.1.2,b.1.2,b.2⟩,fun e=>J.resolve_left fun f=>f e,fun e f=>?_⟩;rcases o with (o|o)|o
  ·exact absurd o e
  ·exact absurd f o
  ·exact o
 have w:∀n i,clI n (p.s i)=true→i=c:=fun n i hi=>by
  unfold clI at hi;simp only[am,bp] at hi;exact (q i (by rw[hi.1];decide)).2.2.2.1 hi.1
 have F:∀n i,i≠c→clI n (p.s i)=false:=fun n i hi=>by
  cases e:clI n (p.s i) with
  |false=>rfl
  |true=>exact absurd (w n i e) hi
 have T:∀n,p.t n 9=0∧p.t n 14= -1∧p.t n 17= -1∧∀k,k<20→if p.k n=6 then fOk p k (p.t n k)=true else p.t n k=bl k:=fun n=>by
  rcases cq n p.kinds.length with e|e
  ·have:=aQ.1 P n (List.mem_range.2 e);unfold ts1 at this;simp only[am,bp] at this;obtain⟨⟨⟨a1,y⟩,A⟩,D⟩:=this;refine⟨a1,y,A,fun k hk=>?_⟩;have:=aQ.1 D k (List.mem_range.2 hk);split
   ·rename_i e6
    rwa [ag e6] at this
   ·rename_i e6;rw[ae e6] at this;simpa using this
  ·have et:p.t n=bl:=by
    show p.tasks.getD n bl=_
    rw[aa,aH (by have:=lf.tasks;omega)];rfl
   rw[et,k_out e];exact⟨rfl,rfl,rfl,fun k _=>by rw[ae (by decide)]⟩
 have L:∀a,p.li a=[]:=fun a=>by have:=all_getD (d:=[]) E rfl a;simpa using this
 have R:∀a,p.re a=[]:=fun a=>by have:=all_getD (d:=[]) U rfl a;simpa using this
 have C:∀a,p.co a= -1:=fun a=>by have:=all_getD (d:= -1) V rfl a;simpa using this
 have B:∀a,p.bi a=0:=fun a=>by have:=all_getD (d:=0) W rfl a;simpa using this
 refine⟨⟨fun k hk=>az (aQ.1 Q k hk),fun k hk=>az (aQ.1 S k hk),⟨dpN p 8,?_⟩,fun n g=>?_,⟨Y,fun i hi=>by have:=aQ.1 O i (List.mem_range.2 hi);simpa using this⟩,⟨lf,⟨fun n g k hk=>by have:=(T n).2.2.2 k hk;rwa [ae g] at this,fun n g k hk=>by have:=(T n).2.2.2 k hk;rwa [ag g] at this⟩,⟨fun n=>.inl (T n).2.2.1,fun u H=>(by rw[(T u).1] at H;cases H),fun n m u g=>(by rw[(T n).2.2.1] at g;omega)⟩,?_⟩⟩,fun l hl=>?_,tm⟩
 ·exact {
   em:=fun i hi=>by
    rcases cq i p.slots.length with e|e
    ·have hk:=aQ.1 r i (List.mem_range.2 e);unfold ky1 at hk;rw[ag (by simpa using hi)] at hk;simp only[am,bp] at hk;exact⟨fun k h=>by have:=aQ.1 hk.1 k (List.mem_range.2 h);simpa using this,hk.2⟩
    ·rw[ky_out e];exact⟨fun k h=>by unfold eS;rw[ae (by omega)],rfl⟩
   nd:=fun i hi=>.inl (q i hi).1
   key:=fun i hi=>(q i hi).2.1
   up:=fun i=>by
    by_cases e:p.s i 0=0
    ·refine .inl ?_;rcases cq i p.slots.length with e2|e2
     ·have hk:=aQ.1 r i (List.mem_range.2 e2);unfold ky1 at hk;rw[ag (by simpa using e)] at hk;simp only[am,bp] at hk;exact hk.2
     ·rw[ky_out e2];rfl
    ·exact (q i e).2.2.1
   one:=fun n i j hi X=>(w n i hi).trans (w n j X).symm
   us:=fun n g i=>by
    by_cases e:i=c
    ·subst e;have hl:n<p.kinds.length:=Nat.lt_of_not_le fun h=>g (k_out h);have:=aQ.1 G n (List.mem_range.2 hl);unfold us1 at this;simp only[cd,am,bp,dw] at this;exact (this.resolve_left g).1
    ·unfold un;rw[F n i e];rfl
   gp:=fun i hi r E M=>by
    by_cases e:M=c
    ·rw[e];exact (q i hi).2.2.2.2 r E
    ·exact F _ _ e}
 ·have hl:n<p.kinds.length:=Nat.lt_of_not_le fun h=>g (k_out h);have:=aQ.1 G n (List.mem_range.2 hl);unfold us1 at this;simp only[cd,am,bp,dw,List.any_eq_true] at this;obtain⟨i,_,hi⟩:=(this.resolve_left g).2;exact⟨i,hi⟩
 ·exact {
   hk:=fun n h=>h.elim
   a1:=fun n _ _ _=>(T n).2.1
   la:=fun n _ _ h=>absurd (by rw[(T n).1];rfl) h
   ln:=fun a z v=>by rw[L a] at v;cases v
   lu:=fun a=>by rw[L a];exact List.nodup_nil
   lw:=fun a n m g=>by rw[L a] at g;cases g
   bt:=fun a=>.inl (B a)
   rd:=fun i z v=>by rw[R i] at v;cases v
   ru:=fun i=>by rw[R i];exact List.nodup_nil
   cr:=fun a=>.inl (C a)
   rq:=fun n _ _ h=>by rw[(T n).1] at h;cases h}
 ·have:l=[]:=by have:=aQ.1 N l hl;simpa using this
  subst this;exact⟨by decide,(fun _ h=>by cases h),List.Pairwise.nil⟩
theorem p0_lv (L:Nat→Int) (h:∀i,i<32→0≤L i∧L i≤65535):Lv (p0 L):=
 ⟨lw_of 1 (ramL_in h) (lfB_in (by kernel_rfl)) (by show (0:Int)≤0;decide) (by kernel_rfl),by show (0:Int)≤1000000;decide⟩
end Go.Proofs.YtaejnmmpddbbjaaGreatDoor.Wd
namespace Go.Proofs.YtaejnmmpddbbjaaGreatDoor.Wd
open Go.RowKit Mem Bw Nums Mmu Hex
def manyB:ByteArray:=⟨#[119,111,114,108,100,32,50,50,32,49,32,48,32,49,32,48,10,99,108,97,121,32,49,32,49,32,49,57,10,109,97,107,101,32,110,111,100,101,32,49,32,49,32,50,10,109,97,107,101,32,115,112,97,99,101,32,49,32,49,32,51,10,109,97,107,101,32,116,97,98,108,101,32,49,32,49,32,52,10,109,97,107,101,32,112,97,103,101,32,49,32,51,32,53,10,109,97,107,101,32,116,97,115,107,32,49,32,51,32,56,10,109,97,107,101,32,100,111,111,114,32,49,32,50,32,49,49,10,109,97,107,101,32,98,101,108,108,32,49,32,49,32,49,51,10,99,111,112,121,32,49,49,32,49,54,32,55,32,57,10,99,111,112,121,32,49,50,32,49,55,32,51,32,48,10,99,111,112,121,32,49,51,32,49,56,32,55,32,52,10,99,111,112,121,32,56,32,49,57,32,55,32,48,10,99,111,112,121,32,53,32,50,48,32,49,32,48,10,101,110,116,101,114,32,50,32,48,32,51,32,48,10,101,110,116,101,114,32,50,32,48,32,52,32,48,10,101,110,116,101,114,32,50,32,49,32,53,32,48,10,101,110,116,101,114,32,50,32,50,32,54,32,49,10,101,113,117,105,112,32,55,32,48,32,50,32,45,32,48,32,49,32,48,10,101,113,117,105,112,32,56,32,49,32,50,32,49,48,32,48,32,49,32,48,10,101,113,117,105,112,32,57,32,49,32,50,32,49,49,32,48,32,51,32,49,10]⟩
def manyQ1:PW:=wlP 22 1 [0,1,0]
def manyQ2:PW:={manyQ1 with slots:=manyQ1.slots.set 1 (clk 1 19)}
def manyQ3:PW:=mkP manyQ2 1 (2+((3:Nat):Int)) 1 2
def manyQ4:PW:=mkP manyQ3 1 (2+((2:Nat):Int)) 1 3
def manyQ5:PW:=mkP manyQ4 1 (2+((1:Nat):Int)) 1 4
def manyQ6:PW:=mkP manyQ5 1 (2+((0:Nat):Int)) 3 5
def manyQ7:PW:=mkP manyQ6 1 (2+((4:Nat):Int)) 3 8
def manyQ8:PW:=mkP manyQ7 1 (2+((5:Nat):Int)) 2 11
def manyQ9:PW:=mkP manyQ8 1 (2+((6:Nat):Int)) 1 13
def manyQ10:PW:={manyQ9 with slots:=manyQ9.slots.set 16 (kpS (manyQ9.slots.getD 11 nkey) (Bw.bw 6 ((manyQ9.slots.getD 11 nkey) 4).toNat 7:Nat) 9 11)}
def manyQ11:PW:={manyQ10 with slots:=manyQ10.slots.set 17 (kpS (manyQ10.slots.getD 12 nkey) (Bw.bw 6 ((manyQ10.slots.getD 12 nkey) 4).toNat 3:Nat) 0 12)}
def manyQ12:PW:={manyQ11 with slots:=manyQ11.slots.set 18 (kpS (manyQ11.slots.getD 13 nkey) (Bw.bw 6 ((manyQ11.slots.getD 13 nkey) 4).toNat 7:Nat) 4 13)}
def manyQ13:PW:={manyQ12 with slots:=manyQ12.slots.set 19 (kpS (manyQ12.slots.getD 8 nkey) (Bw.bw 6 ((manyQ12.slots.getD 8 nkey) 4).toNat 7:Nat) 0 8)}
def manyQ14:PW:={manyQ13 with slots:=manyQ13.slots.set 20 (kpS (manyQ13.slots.getD 5 nkey) (Bw.bw 6 ((manyQ13.slots.getD 5 nkey) 4).toNat 1:Nat) 0 5)}
def manyQ15:PW:={manyQ14 with ram:=manyQ14.ram.set (2*16+0/16) (32768+((3:Nat):Int))}
def manyQ16:PW:={manyQ15 with ram:=manyQ15.ram.set ((manyQ15.ram.getD (2*16+0/16) 0).toNat%1024*16+0%16) (32768+((0:Nat):Int)*16384+((4:Nat):Int))}
def manyQ17:PW:={manyQ16 with ram:=manyQ16.ram.set ((manyQ16.ram.getD (2*16+1/16) 0).toNat%1024*16+1%16) (32768+((0:Nat):Int)*16384+((5:Nat):Int))}
def manyQ18:PW:={manyQ17 with ram:=manyQ17.ram.set ((manyQ17.ram.getD (2*16+2/16) 0).toNat%1024*16+2%16) (32768+((1:Nat):Int)*16384+((6:Nat):Int))}
def manyQ19:PW:=eqP manyQ18 7 (fun k=>[0,0,2,(-1),0,1,0].getD k 0)
def manyQ20:PW:=eqP manyQ19 8 (fun k=>[0,1,2,10,0,1,0].getD k 0)
def manyQ21:PW:=eqP manyQ20 9 (fun k=>[0,1,2,11,0,3,1].getD k 0)
def manyQ:PW:=manyQ21
theorem many_eq:worldsOf (Prs.linesB manyB) (wlP 22 1 [0,1,0]) (Prs.linesB manyB).length=manyQ:=by kernel_rfl
theorem many_reads:Reads (Prs.linesB manyB) (worldsOf (Prs.linesB manyB) (wlP 22 1 [0,1,0])) 22 1 [0,1,0]:=
 reads_of (l:=[⟨#[50,50]⟩,⟨#[49]⟩,⟨#[48]⟩,⟨#[49]⟩,⟨#[48]⟩]) (az (by kernel_rfl)) (az (by kernel_rfl)) (by kernel_rfl) (by kernel_rfl) (by decide) (by decide) (by kernel_rfl) (by decide) (by kernel_rfl) (by kernel_rfl)
end Go.Proofs.YtaejnmmpddbbjaaGreatDoor.Wd
namespace Go.Proofs.YtaejnmmpddbbjaaGreatDoor.Wd
open Go.RowKit Mem Bw Nums Mmu Hex Mad
def ramM (L:Nat→Int):List Int:=(manyQ.ram.take 64++(List.range 32).map L)++manyQ.ram.drop 96
def m0 (L:Nat→Int):PW:={manyQ with ram:=ramM L}
theorem many_letters (zs:List (Int×Int×Int×Int)):cdN manyQ.ram 64 zs 16=ramM (letters zs):=by kernel_rfl
theorem ramM_in {L:Nat→Int} (h:∀i,i<32→0≤L i∧L i≤65535):∀x∈ramM L,0≤x∧x≤65535:=by
 have b:manyQ.ram.all (fun x=>decide (0≤x)&&decide (x≤65535))=true:=by kernel_rfl
 rw[aQ] at b;intro x a;unfold ramM at a;rw[dA,dA] at a;rcases a with (a|a)|a
 ·have:=b x (List.mem_of_mem_take a);simpa using this
 ·obtain⟨i,hi,rfl⟩:=List.mem_map.1 a;exact h i (List.mem_range.1 hi)
 ·have:=b x (List.mem_of_mem_drop a);simpa using this
theorem m0_lv (L:Nat→Int) (h:∀i,i<32→0≤L i∧L i≤65535):Lv (m0 L):=
 ⟨lw_of 1 (ramM_in h) (lfB_in (by kernel_rfl)) (by show (0:Int)≤0;decide) (by kernel_rfl),by show (0:Int)≤1000000;decide⟩
theorem readOne (w:World) (hk:KnW w):Calls Tryz.prog 29 #[.string oneB] w fun r w'=>∃X tag,r=.returned (.tuple #[.agg (arr11 X),.agg #[.int .i64 0,.int .i64 (-1)]])∧WorldT w' tag X oneQ∧(∀k,k<w.heap.size→tag k=0)∧Below w.heap.size w w':=by
 have:=readWorld_ref oneB _ 24 2 [0] w (az (by kernel_rfl)) one_reads hk;rw[show worldsOf (Prs.linesB oneB) (wlP 24 2 [0]) (Prs.linesB oneB).length=oneQ from oneP_eq] at this;exact this
theorem WorldT.up {w w':World} {tag:Nat→Nat} {X:Nat→Value} {p:PW} (h:WorldT w tag X p) (b:Below w.heap.size w w'):WorldT w' (tagC tag w.heap.size) X p:=by
 have hk:Kp (fun _=>False) w w':=.of_below b;have a:∀k,k<w.heap.size→tagC tag w.heap.size k=tag k:=fun k h=>tagC_lt h;exact⟨h.ram.kp hk a (fun _ _=>id),h.kinds.kp hk a (fun _ _=>id),h.slots.kp hk a (fun _ _=>id),h.tasks.kp hk a (fun _ _=>id),h.lines.kp hk a (fun _ _=>id),h.bits.kp hk a (fun _ _=>id),h.cores.kp hk a (fun _ _=>id),h.ready.kp hk a (fun _ _=>id),h.tlbs.kp hk a (fun _ _=>id),h.doms.kp hk a (fun _ _=>id),h.time⟩
end Go.Proofs.YtaejnmmpddbbjaaGreatDoor.Wd
