/- Qbq -/
import Derived.Test.YtnccmdndkmmhcaaGreatDoorQbp
set_option maxRecDepth 100000
set_option maxHeartbeats 16000000
namespace Go.Proofs.YtnccmdndkmmhcaaGreatDoor
namespace Wd
open Go.RowKit Mem Bw Nums Mmu
theorem cb.tick {W:World} {wb:Nat} {tag:Nat->Nat} {V:Nat->Value} {p:PW} (h:cb W wb tag V p) (x:Int):
  cb (W.setCell ⟨wb,10,none⟩ (.int .i64 x)) wb tag (fun k=>if k=10 then .int .i64 x else V k) {p with time:=x}∧Kt tag tag W (W.setCell ⟨wb,10,none⟩ (.int .i64 x)):=by
 have k:Kp (fun k=>tag k=1) W (W.setCell ⟨wb,10,none⟩ (.int .i64 x)):=(aV _ W).setCell (b:=wb) (o:=10) (.inl h.g) _;have a:∀k,k<W.heap.size->tag k=tag k:=fun _ _=>rfl;refine⟨⟨fun j v hv=>?_,ib h.t _ _,h.g,⟨h.o.IE.kp k a (fun k e=>oA),h.o.kinds.kp k a (fun k e=>oA),h.o.IA.kp k a (fun k e=>oA),h.o.IB.kp k a (fun k e=>oA),h.o.lines.kp k a (fun k e=>by rcases e with e|⟨i,e⟩<;>omega),h.o.bits.kp k a (fun k e=>oA),h.o.IC.kp k a (fun k e=>oA),h.o.ready.kp k a (fun k e=>by rcases e with e|⟨i,e⟩<;>omega),h.o.ID.kp k a (fun k e=>by rcases e with e|⟨i,e⟩<;>omega),h.o.IG.kp k a (fun k e=>oA),rfl⟩⟩,.of k (fun b e=>oA) a⟩;by_cases e:j=10
 ·subst e
  cases hv
  exact dy _ _ _ (h.r 10 _ rfl)
 ·rw[aQ _ _ _ _ (by intro e2;have:=dG Addr.off e2;simp only at this;omega)];refine h.r j v ?_;rcases j with _|_|_|_|_|_|_|_|_|_|j
  all_goals first|exact hv|skip
  cases j with
  |zero=>exact absurd rfl e
  |succ j=>cases hv
def Sp (p:PW) (wb:Nat) (tag:Nat->Nat) (W W':World):Prop:=∃(tag':Nat->Nat) (V':Nat->Value) (q:PW),Kt tag tag' W W'∧cb W' wb tag' V' q∧Lv q∧q.kinds.length=p.kinds.length∧q.time=p.time+1∧q.ID.length=p.ID.length
theorem Dn.back {p:PW} {wb:Nat} {tag0:Nat->Nat} {w0 w1 W:World} {l:List Nat} (h:Dn p wb tag0 w1 l W) (a:Below w0.heap.size w0 w1) (b:wb<w0.heap.size):Dn p wb tag0 w0 l W:=by
 obtain⟨tag,V,q,bt,c,kt,ow,d⟩:=h;exact⟨tag,V,q,bt,c,(bj a).trans kt,fun k hk=>⟨(ow k hk).1,aD a.size (ow k hk).2.1,(ow k hk).2.2⟩,fun j v hv=>(a.cell (p:=⟨wb,0+j,none⟩) b).symm.trans (d j v hv)⟩
theorem ur {ρ:Operand->Value} {o:Oper} {W:World} {x:Operand} (c:o.op=.load 37 x) {b k:Nat} (d:ρ x=.pointer (some ⟨b,k,none⟩)) {cs:List Value} (hl:cs.length=20) (a:W.rangeAt b k cs):(execOp ρ o).run Tryz.prog W=.ok (.value (.agg cs.toArray)) W:=by
 unfold execOp;simp only[c,d,Instr.loadAt,Instr.sureAddr,eW,Sem.run_pure,Result.andThen_ok,run_loadVar_mid W b k 37 cs _ a Tryz.underlying37 rfl (by rw[gA,hl])]
theorem Dn.there {p:PW} {wb:Nat} {tag0:Nat->Nat} {w1 W:World} {l:List Nat} (h:Dn p wb tag0 w1 l W) {b n:Nat} (a:w1.there b 0 n) (c:tag0 b=0):W.there b 0 n:=by
 obtain⟨tag,V,q,bt,d,kt,ow,e⟩:=h;exact kt.there a c
theorem cb.JJ {W:World} {wb:Nat} {tag:Nat->Nat} {V:Nat->Value} {p:PW} (h:cb W wb tag V p) {g cap:Nat} (e:V 3=.slice (some ⟨g,0,none⟩) p.IB.length cap) {i:Nat} (hi:i<p.IB.length):W.rangeAt g (i*20) (cf 20 (p.t i)):=fun j v hv=>by
 have a:j<20:=by have:=(List.getElem?_eq_some_iff.1 hv).1;simpa [cf] using this
 rw[dk 20 _ j a] at hv
 cases hv
 exact h.IH e hi a
theorem yx (wb:Nat) (tag:Nat->Nat) (V:Nat->Value) (p:PW) (c:Nat) (w:World) (bt:cb w wb tag V p) (hp:Lv p) (ht:p.time+1<=1000000) (hc:c<p.IC.length):
  Calls Tryz.prog 42 #[.pointer (some ⟨wb,0,none⟩),.int .i64 (c:Int)] w fun r w'=>r=.returned (.tuple #[])∧Sp p wb tag w w':=by
 have HP:=hid hp;have HT:=hid ht;have aQ:=hid hc;obtain⟨aX,a2⟩:=iJ bt;have a4:=hid aX;have ac:=hid a2;have CS:=hid (fun t1 t2=>show jc [(w.heap.size,.pointer (some ⟨wb,0,none⟩)),(w.heap.size+1,.int .i64 (c:Int))] (jb tag w.heap.size) ((w.alloc (.cells #[.pointer (some ⟨wb,0,none⟩)] t1)).alloc (.cells #[.int .i64 (c:Int)] t2)) from by
  intro x hx;rcases bL.1 hx with rfl|hx
  ·exact⟨cu (bal (af _ _) _) (ai (hZ w [.pointer (some ⟨wb,0,none⟩)] t1 _ rfl) rfl),fH (aq _)⟩
  ·obtain rfl:=dm.1 hx;exact⟨ai (hZ (w.alloc (.cells #[.pointer (some ⟨wb,0,none⟩)] t1)) [.int .i64 (c:Int)] t2 _ oS) rfl,fH (Nat.le_succ _)⟩)
 have BS:=hid (fun o1 o2=>bal (bal (af w.heap.size w) o1) o2);clear bt hp ht hc aX a2;go_enter Tryz.func42,Tryz.ntmps42
 go_upto_region 1 with fail
 generalize G:World.alloc (World.alloc _ _) _=W0;have B0:=hid (show Below w.heap.size w W0 by rw[<-G];exact BS _ _);have P:=hid (show jc [(w.heap.size,.pointer (some ⟨wb,0,none⟩)),(w.heap.size+1,.int .i64 (c:Int))] (jb tag w.heap.size) W0 by rw[<-G];exact CS _ _);clear G BS CS;have u:=(P.out (w.heap.size,.pointer (some ⟨wb,0,none⟩)) oS).1;have J:=(P.out (w.heap.size+1,.int .i64 (c:Int)) oS).1;change W0.cell? ⟨w.heap.size,0,none⟩=some (.pointer (some ⟨wb,0,none⟩)) at u;change W0.cell? ⟨w.heap.size+1,0,none⟩=some (.int .i64 (c:Int)) at J;go_wp2_with fail
 refine (yo wb (jb tag w.heap.size) V p c W0 (a4.below B0) HP aQ).mono ?_;rintro r w1 ⟨rfl,aj,V1,p1,k1,aG,ap⟩;clear u J;have Y:=hid ap;have lf:=ap.w.w.m.tk.lf;have aY:c<p1.IC.length:=by rw[ap.co HP];exact aQ
 have bf:(c:Int)<(p1.IC.length:Int):=oA;have bg:(p1.IC.length:Int)<=1000:=by have:=ap.w.w.fits.IC;omega
 have a5:=hid (show c<p1.ID.length by have:=lf.ID;omega);obtain⟨g6,k6,e6⟩:=aG.o.IC.form oA;go_upto_region 2 with fail
 have O:=hid (show Below w1.heap.size w1 w1.drew from aB w1 1);obtain⟨au,a3⟩:=iJ (aG.below O);have KX:=hid ((k1.trans (bj O)).trans a3);have CX:=hid (P.kt KX);obtain⟨z,hz⟩:∃z,p1.co c=z:=⟨_,rfl⟩
 have x6:w1.drew.cell? ⟨g6,c,none⟩=some (.int .i64 z):=by rw[(au.IL e6 aY).1];exact dG (fun z=>some (Value.int .i64 z)) hz
 have c6:w1.drew.cell? ⟨wb,6,none⟩=some (.slice (some ⟨g6,0,none⟩) p1.IC.length k6):=by rw[ai au.r (k:=6) rfl,e6]
 have aw:=hid au;have HZ:=hid hz;have SS:=hid (show (fun W=>W.cell? ⟨w.heap.size,0,none⟩=some (.pointer (some ⟨wb,0,none⟩))∧W.cell? ⟨w.heap.size+1,0,none⟩=some (.int .i64 (c:Int))∧W.cell? ⟨wb,6,none⟩=some (.slice (some ⟨g6,0,none⟩) p1.IC.length k6)∧W.cell? ⟨g6,c,none⟩=some (.int .i64 z)) w1.drew from⟨(CX.out (w.heap.size,_) oS).1,(CX.out (w.heap.size+1,_) oS).1,c6,x6⟩);have SB:=hid (fun W (h:Below w1.drew.heap.size w1.drew W)=>show (fun W=>W.cell? ⟨w.heap.size,0,none⟩=some (.pointer (some ⟨wb,0,none⟩))∧W.cell? ⟨w.heap.size+1,0,none⟩=some (.int .i64 (c:Int))∧W.cell? ⟨wb,6,none⟩=some (.slice (some ⟨g6,0,none⟩) p1.IC.length k6)∧W.cell? ⟨g6,c,none⟩=some (.int .i64 z)) W from⟨cu h SS.1,cu h SS.2.1,cu h SS.2.2.1,cu h SS.2.2.2⟩);clear x6 c6 aG au k1 a3 O e6 ap hz lf aY;refine Rf.ed (S:=fun W=>W.cell? ⟨w.heap.size,0,none⟩=some (.pointer (some ⟨wb,0,none⟩))∧W.cell? ⟨w.heap.size+1,0,none⟩=some (.int .i64 (c:Int))∧W.cell? ⟨wb,6,none⟩=some (.slice (some ⟨g6,0,none⟩) p1.IC.length k6)∧W.cell? ⟨g6,c,none⟩=some (.int .i64 z)) (R:=fun _=>True) [] oK SS trivial (fun _ _=>?_);generalize w1.drew=x1 at*;refine bT oK _ SS trivial [0,1,2,3,4,5,6] 2 _ _ oK ?_
 repeat (refine Rf.rs ?_;try simp only[jj])
 refine aM ?_;refine Rf.r1 7 rfl (fun K B=>?_);refine wnt oR ?_;go_simp
 refine B _ _ (SB.out _ (bal (af _ _) _)) (fun _=>trivial) (fun _ _=>?_);clear B K
 try simp only[jj]
 refine Rf.r1 8 rfl (fun K B=>?_);refine wnt oR ?_;go_simp
 refine B _ _ (SB.out _ (bal (af _ _) _)) (fun _=>trivial) (fun _ _=>?_);clear B K
 try simp only[jj]
 refine bc oK ?_ _;have aJ:=hid (fun o=>bal (af x1.heap.size x1) o);have aW:=hid (fun t=>ai (hZ x1 [.int .i64 z] t _ rfl) (k:=0) rfl);generalize G:World.alloc _ _=D;have B2:=hid (show Below x1.heap.size x1 D by rw[<-G];exact aJ _);have x4:D.cell? ⟨x1.heap.size,0,none⟩=some (.int .i64 z):=by rw[<-G];exact aW _
 clear G aJ aW;obtain⟨u,J, -, -⟩:=SB.out _ B2;clear SB SS;rcases Y.w.w.m.tk.q.cr c with e|⟨t,e,_,h6,_⟩
 ·rw[HZ.out] at e;subst e;have F:=hid (show Bx p wb (jb tag w.heap.size) W0 D from⟨_,V1,p1,KX.trans (bj B2),aw.below B2,Y.out⟩);clear u J;go_upto_region 16 with fail
  clear x4;obtain⟨tg,X,q,y,j,d⟩:=F.out;have u:=((P.kt y) (w.heap.size,.pointer (some ⟨wb,0,none⟩)) oS).1;change D.cell? ⟨w.heap.size,0,none⟩=_ at u;have al:D.cell? ⟨wb,10,none⟩=some (.int .i64 q.time):=by rw[ai j.r (k:=10) rfl,j.o.time]
  have fr:D.frozen? ⟨wb,10,none⟩=false:=(j.t 10 oD).2;have A:=hid (j.tick (q.time+1));have m0:0<=q.time:=d.w.w.tm;have m1:q.time+1<=1000000:=by rw[d.t];exact HT
  have M:=hid (show Sp p wb tag w (D.setCell ⟨wb,10,none⟩ (.int .i64 (q.time+1))) from⟨tg,_,_,((ac.trans (bj B0)).trans y).trans A.2,A.1,⟨d.w.w.tick,m1⟩,d.k,by show q.time+1=p.time+1;rw[d.t],d.c⟩);clear j y d A F;go_wp2_with fail
  exact aI (aF rfl _ _ _) rfl ⟨rfl,M.out⟩
 ·rw[HZ.out] at e;subst e;have H6:=hid h6;have a6:=hid (show p1.co c=t from HZ);have an:=hid (aw.below B2);have ax:=hid (show jc [(w.heap.size,.pointer (some ⟨wb,0,none⟩)),(w.heap.size+1,.int .i64 (c:Int)),(x1.heap.size,.int .i64 (t:Int))] (jb aj x1.heap.size) D from fun x hx=>by
   rcases bL.1 hx with rfl|hx
   ·exact⟨u,(CX.out (w.heap.size,_) oS).2⟩
   rcases bL.1 hx with rfl|hx
   ·exact⟨J,(CX.out (w.heap.size+1,_) oS).2⟩
   obtain rfl:=dm.1 hx;exact⟨x4,fH (aq _)⟩)
  have a8:=iM (p:=p1) (f:=t) (by rw[h6];decide);have a0:t<p1.IB.length:=by have:=Y.w.w.m.tk.lf.IB;omega
  have bk:(t:Int)<(p1.IB.length:Int):=oA;have bn:(p1.IB.length:Int)<=1000:=by have:=Y.w.w.fits.IB;omega
  have bh:(0:Int)<=(t:Int):=oA;have aR:=hid a0;have aS:=hid (aE aw.lt B2.size);obtain⟨gt,kt,e3⟩:=an.o.IB.form oA;have E3:=hid e3;have HF:=hid (fun k (hk:k<9)=>Y.w.w.m.tk.word h6 (k:=k) (.inl oA));have c3:=hid (show D.cell? ⟨wb,3,none⟩=some (.slice (some ⟨gt,0,none⟩) p1.IB.length kt) by rw[ai an.r (k:=3) rfl,e3]);obtain⟨f,hf⟩:∃f,p1.t t=f:=⟨_,rfl⟩
  rw[hf] at HF;have aC:=hid hf;have D2:=hid (Dn.start Y.w an);have N:=hid (fun l W (h:Dn p1 wb (jb aj x1.heap.size) D l W)=>show (fun W=>W.cell? ⟨w.heap.size,0,none⟩=some (.pointer (some ⟨wb,0,none⟩))∧W.cell? ⟨wb,3,none⟩=some (.slice (some ⟨gt,0,none⟩) p1.IB.length kt)∧W.cell? ⟨x1.heap.size,0,none⟩=some (.int .i64 (t:Int))∧W.rangeAt gt (t*20) (cf 20 f)) W from by
   obtain⟨tag',V',q,bt,⟨sm,X,R,e⟩,kk,ow,rr⟩:=h;have cc:=ax.kt kk;have E:V' 3=.slice (some ⟨gt,0,none⟩) p1.IB.length kt:=aL ((ai rr (k:=3) rfl).symm.trans c3);subst e;have a9:=bt.JJ E (i:=t) aR;refine⟨(cc (w.heap.size,_) oS).1,(ai bt.r (k:=3) rfl).trans (dG some E),(cc (x1.heap.size,_) oS).1,?_⟩;rw[<-aC.out];exact a9)
  have ar:=hid (fun W (h:Below D.heap.size D W)=>Et p1 wb (jb aj x1.heap.size) V1 w.heap.size (w.heap.size+1) x1.heap.size c t f W (an.below h) Y.w a5 H6 (ax.kt (bj h)) HF);unfold ptr at ar;clear e3 hf a0 h6 a8 u J CX;go_upto_region 6 with fail
  clear x4;go_cut [7,8,9] (fun r7 r8 r9 wx=>∃(b7:Nat) (g:Nat->Int) (E n:Int),r7=.pointer (some ⟨b7,0,none⟩)∧r8=.int .i64 E∧r9=.int .i64 n∧Hid (Gq f g)∧Hid ((0<=E∧E<=3)∧(-32768<=n∧n<=65535)∧(E=2-> -1<=n))∧Hid (wx.rangeAt b7 0 (cf 20 g))∧Hid (Dn p1 wb (jb aj x1.heap.size) D [b7] wx))
  case first=>
   have D0:=hid (D2.below (show Below D.heap.size D D.drew from aB D 1));have am:=hid (show Below D.heap.size D D.drew from aB D 1);have S0:=hid (N.out _ _ D0);refine Rf.ed (S:=fun W=>W.cell? ⟨w.heap.size,0,none⟩=some (.pointer (some ⟨wb,0,none⟩))∧W.cell? ⟨wb,3,none⟩=some (.slice (some ⟨gt,0,none⟩) p1.IB.length kt)∧W.cell? ⟨x1.heap.size,0,none⟩=some (.int .i64 (t:Int))∧W.rangeAt gt (t*20) (cf 20 f)) (R:=fun _=>True) [] oK S0 trivial (fun _ _=>?_);generalize D.drew=x2 at*;refine bT oK _ S0 trivial [0,1,2,3,4,5,6,7,8] 9 _ _ oK ?_
   repeat (refine Rf.Am rfl oR (fun _ _ _ _ h=>h) ?_;apply Exists.intro;refine⟨fun W h=>?_,?_⟩;(focus (obtain⟨h1,h2,h3,h4⟩:=h;first|exact ur rfl rfl (ay _ _) h4|(clear h4;go_simp;try rfl)));try simp only[jj])
   refine aM ?_;refine Rf.dp (rs:=[9,14]) oK oS (dR rfl (fun K B=>?_) (dR rfl (fun K B=>?_) Rf.di.nil))
   ·refine wnt oR ?_;go_simp
    refine (ar.out x2 am).mono ?_;rintro e w7 ⟨g,E,n,rfl,gq,ae,hn,ao,dn⟩;have GQ:=hid gq;have HN:=hid (⟨ae,hn,ao⟩:(0<=E∧E<=3)∧(-32768<=n∧n<=65535)∧(E=2-> -1<=n));have Q:=hid (dn.back am aS);unfold lH;clear gq ae hn ao dn;go_wp2_with fail
    refine B _ _ (N.out _ _ Q) (fun _=>trivial) (fun _ _=>?_);clear B K
    try simp only[jj]
    refine bT oK _ (N.out _ _ Q) trivial [10,11,12,13] 4 _ _ oK ?_
    repeat (refine Rf.rs ?_;try simp only[jj])
    refine aM ?_;refine Rf.r1 14 rfl (fun K B=>?_);refine wnt oR ?_;go_simp
    refine B _ _ (N.out _ _ (Q.alloc _)) (fun _=>trivial) (fun _ _=>?_);clear B K
    try simp only[jj]
    have DS:=hid (fun o=>Q.alloc o);generalize G:World.alloc _ _=H;have D8:=hid (show Dn p1 wb (jb aj x1.heap.size) D [w7.heap.size] H by rw[<-G];exact DS _);have Z:=hid (show H.there w7.heap.size 0 20 by rw[<-G];exact aP _ _ _ _ _ rfl oD);clear G DS Q;refine Rf.r1 15 rfl (fun K B=>?_);refine wnt oR ?_;refine wp_store_mid _ _ _ rfl _ _ (cf 20 g).toArray rfl rfl (by simpa [gW] using Z.out) (by rw[gA];simp[gW]) (all_oneCell_toArray (bQ 20 g)) ?_;have L:=hid (D8.kp (aN (b:=w7.heap.size) (.inl oS) (cf 20 g) 0 _ (aV _ _)));have U:=hid (World.rangeAt_setCells_same _ w7.heap.size 0 (cf 20 g) (by rw[ay];exact Z));refine B _ _ (N.out _ _ L) (fun _=>trivial) (fun _ _=>?_);clear B K Z D8;generalize World.setCells _ _ _ _=C at L U ⊢
    try simp only[jj]
    refine bT oK _ (N.out _ _ L) trivial [16,17] 0 _ _ oK ?_
    repeat (refine Rf.rs ?_;try simp only[jj])
    refine aM ?_;refine bc oK ?_ _;go_wp2_with fail
    go_meet
    exact⟨_,g,E,n,rfl,rfl,rfl,GQ,HN,U,L⟩
   ·refine wnt oR ?_;go_simp
    refine B _ _ (N.out _ _ (D0.alloc _)) (fun _=>trivial) (fun _ _=>?_);clear B K
    try simp only[jj]
    have BS:=hid (fun o=>bal am o);generalize G:World.alloc _ _=x3;have aK:=hid (show Below D.heap.size D x3 by rw[<-G];exact BS _);have Z:=hid (show x3.there x2.heap.size 0 20 by rw[<-G];exact aP _ _ _ _ _ rfl oD);have S8:=hid (show x2.heap.size<x3.heap.size by rw[<-G];simp);have Z8:=hid (show jb aj x1.heap.size x2.heap.size=0 from fH (aD B2.size am.size));clear G BS;refine Rf.r1 9 rfl (fun K B=>?_);refine wnt oR ?_;go_simp
    refine (ar.out x3 aK).mono ?_;rintro e w7 ⟨g,E,n,rfl,gq,ae,hn,ao,dn⟩;have GQ:=hid gq;have HN:=hid (⟨ae,hn,ao⟩:(0<=E∧E<=3)∧(-32768<=n∧n<=65535)∧(E=2-> -1<=n));have Q:=hid (dn.pre aK am.size S8 Z8 aS);replace Z:=hid (dn.there Z Z8);unfold lH;clear gq ae hn ao dn;go_wp2_with fail
    refine B _ _ (N.out _ _ Q) (fun _=>trivial) (fun _ _=>?_);clear B K
    try simp only[jj]
    refine bT oK _ (N.out _ _ Q) trivial [10,11,12,13] 3 _ _ oK ?_
    repeat (refine Rf.rs ?_;try simp only[jj])
    refine aM ?_;refine Rf.r1 15 rfl (fun K B=>?_);refine wnt oR ?_;refine wp_store_mid _ _ _ rfl _ _ (cf 20 g).toArray rfl rfl (by simpa [gW] using Z.out) (by rw[gA];simp[gW]) (all_oneCell_toArray (bQ 20 g)) ?_;have L:=hid (Q.kp (aN (b:=x2.heap.size) (.inl oS) (cf 20 g) 0 _ (aV _ _)));have U:=hid (World.rangeAt_setCells_same _ x2.heap.size 0 (cf 20 g) (by rw[ay];exact Z));refine B _ _ (N.out _ _ L) (fun _=>trivial) (fun _ _=>?_);clear B K Z Q;generalize World.setCells _ _ _ _=C at L U ⊢
    try simp only[jj]
    refine bT oK _ (N.out _ _ L) trivial [16,17] 0 _ _ oK ?_
    repeat (refine Rf.rs ?_;try simp only[jj])
    refine aM ?_;refine bc oK ?_ _;go_wp2_with fail
    go_meet
    exact⟨_,g,E,n,rfl,rfl,rfl,GQ,HN,U,L⟩
  case rest=>
   obtain⟨b7,g,E,n,rfl,rfl,rfl,GQ,HN,U,L⟩:=hcut;clear ar c3 D2;obtain⟨tg,V',q,j,⟨sm,XX,RR,eq⟩,y,ow,rr⟩:=L.out;have KQ:=hid y;obtain⟨z7,l7,m7⟩:=ow b7 (dm.2 rfl);have Z7:=hid z7;have aH:V' 3=.slice (some ⟨gt,0,none⟩) q.IB.length kt:=by
    rw[eq];have e1:=(ai rr (k:=3) rfl).symm.trans (ai an.r (k:=3) rfl);exact (aL e1).trans E3
   have aZ:t<q.IB.length:=by rw[eq];exact aR
   have O:=hid (show Below wc.heap.size wc wc.drew from aB wc 1);have TH:=hid ((j.below O).IZ aH (t*20) 20 oA);have aU:=hid ((j.below O).I5 aH aZ g);have G6:=hid (show q.k t=6 by rw[eq];exact H6);have SR:=hid (sm.w.row G6 (g:=g) (by rw[eq];show Gq (p1.t t) g;rw[aC.out];exact GQ));have SQ:=hid sm;have CQ:=hid (show q.co c=t by rw[eq];exact a6);have KK:=hid (show ∀k,q.k k=p1.k k from fun k=>by rw[eq]);obtain⟨u,c3,T, -⟩:=N.out _ _ (L.below O);have S7:=hid (show (fun W=>W.cell? ⟨w.heap.size,0,none⟩=some (.pointer (some ⟨wb,0,none⟩))∧W.cell? ⟨wb,3,none⟩=some (.slice (some ⟨gt,0,none⟩) p1.IB.length kt)∧W.cell? ⟨x1.heap.size,0,none⟩=some (.int .i64 (t:Int))∧W.rangeAt b7 0 (cf 20 g)) wc.drew from⟨u,c3,T,bK U O⟩);have E7:=hid (bK U O);clear j sm y ow rr z7 l7 m7 u c3 T aH aZ eq L N U;go_upto_region 7 with fail
   refine bI (R:=fun W=>W.cell? ⟨w.heap.size,0,none⟩=some (.pointer (some ⟨wb,0,none⟩))∧W.cell? ⟨wb,3,none⟩=some (.slice (some ⟨gt,0,none⟩) p1.IB.length kt)∧W.cell? ⟨x1.heap.size,0,none⟩=some (.int .i64 (t:Int))∧W.rangeAt b7 0 (cf 20 g)) [7] [0,1,2,3,4,5,6] 1 oK S7 oK oK oK (fun _=>?_);generalize wc.drew=x7 at*
   repeat (refine Rf.Am rfl oR (fun _ _ _ _ h=>h) ?_;apply Exists.intro;refine⟨fun W h=>?_,?_⟩;(focus (obtain⟨h1,h2,h3,h4⟩:=h;first|exact ur rfl rfl (ay _ _) h4|(clear h4;go_simp;try rfl)));try simp only[jj])
   refine aM ?_;refine Rf.r1 7 rfl (fun K B=>?_);refine wnt oR ?_;refine wp_store_mid _ _ _ rfl _ _ (cf 20 g).toArray rfl rfl (by simpa [gW] using TH.out) (by rw[gA];simp[gW]) (all_oneCell_toArray (bQ 20 g)) ?_;refine B _ _ trivial (bX oK) (fun _ _=>?_);clear B K TH S7
   try simp only[jj]
   refine bc oK ?_ _;obtain⟨b8,k8⟩:=aU.out;have ab:=hid b8;have aT:=hid ((KQ.trans (bj O)).trans k8);have E8:=hid (eN E7 k8.k (fun e=>e Z7));have ah:=hid ((KX.trans (bj B2)).trans aT);have C8:=hid (ax.kt aT);have ad:=hid (SQ.trans SR);have aA:=hid (Y.w.w.m.tk.a.ok t H6 13 oD);change Hid (fA p1 (p1.t t 13) 7=true) at aA;rw[aC.out, <-GQ.s 13 oD] at aA;clear b8 k8 aU O E7 Z7 KQ SR SQ;generalize av:({q with IB:=q.IB.set t g}:PW)=q2 at ab ad;have aO:=hid (show q2.k t=6 by rw[<-av];exact G6);have az:=hid (show q2.co c=t by rw[<-av];exact CQ);have a7:=hid (show ∀k,q2.k k=p1.k k from fun k=>by rw[<-av];exact KK k);clear av G6 CQ KK;generalize World.setCells _ _ _ _=H at*;have u:=(C8.out (w.heap.size,.pointer (some ⟨wb,0,none⟩)) oS).1;have J:=(C8.out (w.heap.size+1,.int .i64 (c:Int)) oS).1;have T:=(C8.out (x1.heap.size,.int .i64 (t:Int)) oS).1;change H.cell? ⟨w.heap.size,0,none⟩=some (.pointer (some ⟨wb,0,none⟩)) at u;change H.cell? ⟨w.heap.size+1,0,none⟩=some (.int .i64 (c:Int)) at J;change H.cell? ⟨x1.heap.size,0,none⟩=some (.int .i64 (t:Int)) at T;have y7:=ai E8 (dk 20 g 13 oD);have ag:=hid (Y.trans ad);obtain⟨⟨ba,bb⟩,⟨n0,n1⟩,n2⟩:=HN.out;have ae:E=0∨E=1∨E=2∨E=3:=oA;rcases ae with rfl|rfl|rfl|rfl
   case' inl=>
    obtain⟨C,rfl⟩:∃x,x=H:=⟨_,rfl⟩
    have F:=hid (show Bx p wb (jb tag w.heap.size) W0 C from⟨tg,V',q2,ah.out,ab.out,ag.out⟩);go_upto_region 16 with fail
    clear u J T y7
   case' inr.inl=>
    go_wp2_with fail
    refine (vQ wb tg V' q2 c t n H ab ad.w az).mono ?_;rintro r C ⟨rfl,I⟩;have F:=hid (Bx.trans ah ag I);clear I u J T y7;go_upto_region 16 with fail
   case' inr.inr.inl=>
    have bo:=n2 rfl;have aa:=aA.out;unfold fA at aa;rw[bZ,bu] at aa;rcases aa with aa|aa
    case' inl=>
     rw[aa] at y7;go_wp2_with fail
     refine (m3 wb tg V' q2 t H ab ad.w aO).mono ?_;rintro r C ⟨rfl,I⟩;have F:=hid (Bx.trans ah ag I);clear I u J T y7;go_upto_region 16 with fail
    case' inr=>
     obtain⟨dd,d1,_,d3⟩:=fd aa;rw[d1] at y7;have D7:=hid (show q2.k dd=7 by rw[a7.out];exact d3);clear aa d1 d3;by_cases hn:n<0
     case' pos=>
      obtain rfl:n= -1:=oA;go_wp2_with fail
      refine (iW ad.w az D7 (b:=0) (v:=65535) (c:=true) oD oD H wb tg V' ab).mono ?_;rintro r C ⟨rfl,I⟩;have F:=hid (Bx.trans ah ag I);clear I u J T y7;go_upto_region 16 with fail
     case' neg=>
      go_wp2_with fail
      refine (iW ad.w az D7 (b:=0) (v:=n) (c:=true) oD oA H wb tg V' ab).mono ?_;rintro r C ⟨rfl,I⟩;have F:=hid (Bx.trans ah ag I);clear I u J T y7;go_upto_region 16 with fail
   case' inr.inr.inr=>
    go_wp2_with fail
    refine (m3 wb tg V' q2 t H ab ad.w aO).mono ?_;rintro r C ⟨rfl,I⟩;have F:=hid (Bx.trans ah ag I);clear I u J T y7;go_upto_region 16 with fail
   all_goals
    obtain⟨tg,X,q,y,j,d⟩:=F.out;have u:=((P.kt y) (w.heap.size,.pointer (some ⟨wb,0,none⟩)) oS).1;change C.cell? ⟨w.heap.size,0,none⟩=_ at u;have al:C.cell? ⟨wb,10,none⟩=some (.int .i64 q.time):=by rw[ai j.r (k:=10) rfl,j.o.time]
    have fr:C.frozen? ⟨wb,10,none⟩=false:=(j.t 10 oD).2;have A:=hid (j.tick (q.time+1));have m0:0<=q.time:=d.w.w.tm;have m1:q.time+1<=1000000:=by rw[d.t];exact HT
    have M:=hid (show Sp p wb tag w (C.setCell ⟨wb,10,none⟩ (.int .i64 (q.time+1))) from⟨tg,_,_,((ac.trans (bj B0)).trans y).trans A.2,A.1,⟨d.w.w.tick,m1⟩,d.k,by show q.time+1=p.time+1;rw[d.t],d.c⟩);clear j y d A F;go_wp2_with fail
    exact aI (aF rfl _ _ _) rfl ⟨rfl,M.out⟩
end Wd
namespace Wd
open Go.RowKit Mem Bw Nums Mmu Hex Mad
def Lvd (w1:World) (wb k:Nat) (W:World):Prop:=∃tg Y q,Own w1 W wb tg Y q∧Lv q∧q.time<=(k:Int)
theorem Lvd.bx {w1 W W':World} {wb k:Nat} {tg:Nat->Nat} {Y:Nat->Value} {q:PW} (o:Own w1 W wb tg Y q) (e:q.time<=(k:Int)) (h:Bx q wb tg W W'):Lvd w1 wb (k+1) W':=by
 obtain⟨d,b,c,kt,bt,a⟩:=h;exact⟨d,b,c,o.to bt kt,a.w,by rw[a.t];omega⟩
theorem zU (v:Value) (rs:List Int) (L:Int) (dd cl:Nat) (w:World) (hv:oB w v rs) (ac:rs.length<=256) (h0: -9223372036854775808<=L) (h1:L<=9223372036854775807) (aC:dd<=20) (aa:0<(cl:Int)) (al:(cl:Int)<=18) (hk:KnW w):
  Calls Tryz.prog 9 #[v,.int .i64 L,.int .i64 (dd:Int),.int .i64 (cl:Int)] w fun r w'=>∃X tag p,r=.returned (.agg (de X))∧fV w' tag X p∧Lv p∧(∀k,k<w.heap.size->tag k=0)∧Below w.heap.size w w':=by
 have M:=hid (bal (af w.heap.size w) (.cells zW 28));have T0:=hid (aP w zW 28 w.heap.size 11 rfl oD);have Q:=hid hv;have O:=hid ac;have BG:=hid (yZ v rs L cl _ (hv.below M) ac h0 h1 aa al (hk.below M));have SZ:=hid (show w.heap.size+1=(w.alloc (.cells zW 28)).heap.size by simp);go_enter Tryz.func9,Tryz.ntmps9
 go_wp2_with fail
 generalize w.alloc _=w1 at*;refine BG.mono ?_;rintro r j ⟨X,tag,p,rfl,hw,hl,an,ao,G⟩;have H:=hid M.out;have TZ:=hid ao;have aj:=hid T0.out;have HW:=hid hw;have I:=hid G;have SA:=hid SZ.out;have ah:=hid hl;have ai:=hid an;have T7:=hid (aP j zW 28 j.heap.size 11 rfl oD);have N:=hid (show Below j.heap.size j (j.alloc (.cells zW 28)) from bal (af _ _) _);have O7:=hid HW.Jb;go_upto_region 2 with ((with_reducible refine gst 28 ?_);refine wpList_store_mid rfl 28 _ _ rfl j.heap.size 0 (de X) rfl rfl T7 fD O7 ?_)
 have WU:=hid (HW.up N);have WB:=hid (WU.box (fH (aq _)) T7);have K5:Kp (fun k=>k=j.heap.size) (j.alloc (.cells zW 28)) ((j.alloc (.cells zW 28)).setCells j.heap.size 0 [X 0,X 1,X 2,X 3,X 4,X 5,X 6,X 7,X 8,X 9,X 10]):=aN (T:=fun k=>k=j.heap.size) (.inl rfl) _ _ _ (aV _ _);have R:=hid (show Own w1 ((j.alloc (.cells zW 28)).setCells j.heap.size 0 [X 0,X 1,X 2,X 3,X 4,X 5,X 6,X 7,X 8,X 9,X 10]) j.heap.size (fun k=>if k=j.heap.size then 1 else jb tag j.heap.size k) X p from
  ⟨WB.out,fun k hk=>by have:=I.size;rw[ae oA,j5 oA];exact TZ k hk,
   K5.below (btr I N) (btr I N).size (fun k hk e=>by have:=I.size;omega)⟩)
 generalize World.setCells _ _ _ _=w6 at R ⊢;generalize j.heap.size=wb at*;generalize (fun k=>if k=wb then 1 else jb tag wb k)=au at R;have L0:=hid (show Lvd w1 wb 0 w6 from⟨au,X,p,R.out,ah.out,by rw[ai.out];exact Int.le_refl 0⟩);go_wp2_with fail
 go_loopw [10] (fun i wr=>∃k:Nat,k<=dd∧i=.int .i64 (k:Int)∧Hid (Lvd w1 wb k wr)) (fun i _=>dd - (intOf i).toNat)
 case atStart=>exact⟨0,oA,rfl,L0⟩
 case round=>
  obtain⟨k,hk,rfl,HI⟩:=hrel;by_cases aF:k<dd
  ·have aG:(k:Int)<(dd:Int):=oA;have aE:(k:Int)<=20:=oA;obtain⟨tg,Y,q,U,S,tq⟩:=HI.out;have Or:=hid U;have A:=hid S;have P:=hid tq;have E:=hid (pD v rs (20+4*k) wr (Q.below (btr H Or.e)) O oA);rw[show ((20+4*k:Nat):Int)=20+4*(k:Int) by omega] at E;go_wp2_with fail
   refine E.mono ?_;rintro e wx ⟨a,rfl,aw,ax,G⟩;have Ox:=hid (Or.next G);have E:=hid (pD v rs (21+4*k) wx (Q.below (btr H Ox.e)) O oA);rw[show ((21+4*k:Nat):Int)=21+4*(k:Int) by omega] at E;go_wp2_with fail
   refine E.mono ?_;rintro e wy ⟨b,rfl,ay,az,G⟩;have Oy:=hid (Ox.next G);have E:=hid (pD v rs (22+4*k) wy (Q.below (btr H Oy.e)) O oA);rw[show ((22+4*k:Nat):Int)=22+4*(k:Int) by omega] at E;go_wp2_with fail
   refine E.mono ?_;rintro e B ⟨c,rfl,aa,aA,G⟩;have n:=hid (Oy.next G);have D:=hid (fun W' (h:Bx q wb tg B W')=>Lvd.bx (k:=k) n P h);have f:=hid (fun W:World=>ef (b) 40 W oA oA oD);have d:=hid (cD (b) 40 oD);generalize fS (b) 40=x at f d;go_wp2_with fail
   refine (f.out _).mono ?_;rintro e w' ⟨rfl,rfl⟩;obtain⟨x0,x1⟩:=d.out;have f:=hid (fun W:World=>ef (c) 40 W oA oA oD);have d:=hid (cD (c) 40 oD);generalize fS (c) 40=y at f d;go_wp2_with fail
   refine (f.out _).mono ?_;rintro e w' ⟨rfl,rfl⟩;obtain⟨y0,y1⟩:=d.out;have f:=hid (fun W:World=>ef (a) 14 W oA oA oD);have d:=hid (cD (a) 14 oD);generalize fS (a) 14=s at f d;go_wp2_with fail
   refine (f.out _).mono ?_;rintro e w' ⟨rfl,rfl⟩;obtain⟨s0,s1⟩:=d.out;by_cases g:s=0
   ·subst g;have f:=hid (fun W:World=>ef (a/14) 8 W oA oA oD);have d:=hid (cD (a/14) 8 oD);generalize fS (a/14) 8=r at f d;go_wp2_with fail
    refine (f.out _).mono ?_;rintro e w' ⟨rfl,rfl⟩;obtain⟨J,K⟩:=d.out;obtain⟨rn,rfl⟩:∃u:Nat,r=u:=⟨r.toNat,oA⟩
    go_wp2_with fail
    refine (nL x y rn 0 A B wb tg Y n.b).mono ?_;rintro r F ⟨e,rfl,_,z⟩;have l:=hid (D.out _ z);go_wp2_with fail
    exact⟨⟨k+1,oA,by go_num,l⟩,by simp[intOf];omega⟩
   have N0:(s==0)=false:=by simp[g]
   by_cases g:s=1
   ·subst g;go_wp2_with fail
    refine (ob x y A B wb tg Y n.b).mono ?_;rintro r F ⟨e,rfl,_,z⟩;have l:=hid (D.out _ z);go_wp2_with fail
    exact⟨⟨k+1,oA,by go_num,l⟩,by simp[intOf];omega⟩
   have N1:(s==1)=false:=by simp[g]
   by_cases g:s=2
   ·subst g;go_wp2_with fail
    refine (nN x A B wb tg Y n.b).mono ?_;rintro r F ⟨e,rfl,_,z⟩;have l:=hid (D.out _ z);go_wp2_with fail
    exact⟨⟨k+1,oA,by go_num,l⟩,by simp[intOf];omega⟩
   have N2:(s==2)=false:=by simp[g]
   by_cases g:s=3
   ·subst g;have f:=hid (fun W:World=>ef (a/14) 7 W oA oA oD);have d:=hid (cD (a/14) 7 oD);generalize fS (a/14) 7=r at f d;go_wp2_with fail
    refine (f.out _).mono ?_;rintro e w' ⟨rfl,rfl⟩;obtain⟨J,K⟩:=d.out;have f:=hid (fun W:World=>ef (c/40) 2 W oA oA oD);have d:=hid (cD (c/40) 2 oD);generalize fS (c/40) 2=m at f d;go_wp2_with fail
    refine (f.out _).mono ?_;rintro e w' ⟨rfl,rfl⟩;obtain⟨m0,m1⟩:=d.out;go_wp2_with fail
    refine (kD 1 (2+r) (1+m) y A B wb tg Y n.b).mono ?_;rintro r F ⟨e,rfl,_,z⟩;have l:=hid (D.out _ z);go_wp2_with fail
    exact⟨⟨k+1,oA,by go_num,l⟩,by simp[intOf];omega⟩
   have N3:(s==3)=false:=by simp[g]
   by_cases g:s=4
   ·subst g;have f:=hid (fun W:World=>ef (b/40) 5 W oA oA oD);have d:=hid (cD (b/40) 5 oD);generalize fS (b/40) 5=r at f d;go_wp2_with fail
    refine (f.out _).mono ?_;rintro e w' ⟨rfl,rfl⟩;obtain⟨J,K⟩:=d.out;by_cases hr:r=0
    ·have am:(r==0)=true:=by simp[hr]
     go_wp2_with fail
     refine (lI x A B wb tg Y n.b).mono ?_;rintro r F ⟨e,rfl,_,z⟩;have l:=hid (D.out _ z);go_wp2_with fail
     exact⟨⟨k+1,oA,by go_num,l⟩,by simp[intOf];omega⟩
    ·have am:(r==0)=false:=by simp[hr]
     go_wp2_with fail
     exact⟨⟨k+1,oA,by go_num,hid (D.out _ (du A n.b (af _ _)))⟩,by simp[intOf];omega⟩
   have N4:(s==4)=false:=by simp[g]
   by_cases g:s=5
   ·subst g;have f:=hid (fun W:World=>ef (b) 3 W oA oA oD);have d:=hid (cD (b) 3 oD);generalize fS (b) 3=r at f d;go_wp2_with fail
    refine (f.out _).mono ?_;rintro e w' ⟨rfl,rfl⟩;obtain⟨J,K⟩:=d.out;go_wp2_with fail
    refine (gG (7+r) A B wb tg Y n.b).mono ?_;rintro r F ⟨e,rfl,_,z⟩;have l:=hid (D.out _ z);go_wp2_with fail
    exact⟨⟨k+1,oA,by go_num,l⟩,by simp[intOf];omega⟩
   have N5:(s==5)=false:=by simp[g]
   by_cases g:s=6
   ·subst g;have f:=hid (fun W:World=>ef (b) 3 W oA oA oD);have d:=hid (cD (b) 3 oD);generalize fS (b) 3=r at f d;go_wp2_with fail
    refine (f.out _).mono ?_;rintro e w' ⟨rfl,rfl⟩;obtain⟨J,K⟩:=d.out;have f:=hid (fun W:World=>ef (c) 4 W oA oA oD);have d:=hid (cD (c) 4 oD);generalize fS (c) 4=m at f d;go_wp2_with fail
    refine (f.out _).mono ?_;rintro e w' ⟨rfl,rfl⟩;obtain⟨m0,m1⟩:=d.out;go_wp2_with fail
    refine (qR (7+r) m A B wb tg Y n.b).mono ?_;rintro r F ⟨e,rfl,_,z⟩;have l:=hid (D.out _ z);go_wp2_with fail
    exact⟨⟨k+1,oA,by go_num,l⟩,by simp[intOf];omega⟩
   have N6:(s==6)=false:=by simp[g]
   have ad:=hid A.w.m.tk.lf.c1;have ag:=hid A.w.m.tk.lf.c2;have ab:0<(q.IC.length:Int):=by have:=ad.out;omega
   have aB:(q.IC.length:Int)<=4:=by have:=ag.out;omega
   obtain⟨g6,k6,e6⟩:=n.b.o.IC.form oA;have c6:=bk n.b e6;have f:=hid (fun W:World=>ef b (q.IC.length:Int) W oA oA ab);have d:=hid (cD b (q.IC.length:Int) ab);generalize fS b (q.IC.length:Int)=cc at f d;go_wp2_with fail
   refine (f.out _).mono ?_;rintro e w' ⟨rfl,rfl⟩;obtain⟨cN,rfl⟩:∃u:Nat,cc=u:=⟨cc.toNat,by have:=d.out;omega⟩
   have ST:=hid (yx wb tg Y q cN B n.b A (by have:=P.out;omega) (by have:=d.out;omega));go_wp2_with fail
   refine ST.mono ?_;rintro r F ⟨rfl,ap,Y',q',kt,bt,lv,_,tt,_⟩;have l:=hid (show Lvd w1 wb (k+1) F from⟨ap,Y',q',n.to bt kt,lv,by rw[tt];have:=P.out;omega⟩);go_wp2_with fail
   exact⟨⟨k+1,oA,by go_num,l⟩,by simp[intOf];omega⟩
  ·obtain rfl:k=dd:=oA;have aD:¬((k:Int)<(k:Int)):=oA;obtain⟨av,Y,q,U,S,_⟩:=HI.out;have C:=hid U;have LA:=hid S;have LT:=hid (show w.heap.size<w1.heap.size by have:=SA.out;omega);have TB:=hid (ct aj C.e);have OO:=hid C.b.o.Jb;have KF:=hid (show Kp (fun k=>k=w.heap.size) wr (wr.setCells w.heap.size 0 [Y 0,Y 1,Y 2,Y 3,Y 4,Y 5,Y 6,Y 7,Y 8,Y 9,Y 10]) from aN (T:=fun k=>k=w.heap.size) (.inl rfl) _ _ _ (aV _ _));have RF:=hid (World.rangeAt_setCells_same wr w.heap.size 0 (de Y).toList TB);have Z:=hid (C.b.kp KF (fun k _ e=>by rw[e];exact C.t _ LT) (fun _ _=>rfl));have V:=hid (KF.below (btr H C.e) (btr H C.e).size (fun k hk e=>oA));go_wp2_with (first|((with_reducible refine gld 28 ?_);refine jt rfl _ rfl wb rfl Y C.b.r ?_)|((with_reducible refine gst 28 ?_);refine wpList_store_mid rfl 28 _ _ rfl w.heap.size 0 (de Y) rfl rfl TB fD OO ?_))
   have TG:=hid C.t;generalize wr.setCells w.heap.size 0 [Y 0,Y 1,Y 2,Y 3,Y 4,Y 5,Y 6,Y 7,Y 8,Y 9,Y 10]=W9 at RF Z V ⊢;exact ar (v:=.agg (de Y)) (gi rfl rfl (run_loadVar_mid _ w.heap.size 0 28 (de Y).toList _ RF Tryz.underlying28 rfl fD)) rfl ⟨Y,rfl,av,q,Z.o,LA.out,fun k hk=>TG.out k (by have:=LT.out;omega),V.out⟩
