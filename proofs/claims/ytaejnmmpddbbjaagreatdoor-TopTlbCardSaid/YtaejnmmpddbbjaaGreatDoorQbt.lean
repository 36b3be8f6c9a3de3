/- Qbt -/
import Derived.Test.YtaejnmmpddbbjaaGreatDoorQbr
import Derived.Test.YtaejnmmpddbbjaaGreatDoorQbs
set_option maxRecDepth 100000
set_option maxHeartbeats 16000000
namespace Go.Proofs.YtaejnmmpddbbjaaGreatDoor
namespace Wd
open Go.RowKit Mem Bw Nums Mmu
theorem cb.tick {W:World} {wb:Nat} {tag:Nat->Nat} {V:Nat->Value} {p:PW} (h:cb W wb tag V p) (x:Int):
  cb (W.setCell ⟨wb,10,none⟩ (.int .i64 x)) wb tag (fun k=>if k=10 then .int .i64 x else V k) {p with time:=x}∧Kt tag tag W (W.setCell ⟨wb,10,none⟩ (.int .i64 x)):=by
 have k:Kp (fun k=>tag k=1) W (W.setCell ⟨wb,10,none⟩ (.int .i64 x)):=(aP _ W).setCell (b:=wb) (o:=10) (.inl h.g) _;have a:∀k,k<W.heap.size->tag k=tag k:=fun _ _=>rfl;refine⟨⟨fun j v c=>?_,gO h.t _ _,h.g,⟨h.o.Eb.kp k a (fun k e=>oA),h.o.kinds.kp k a (fun k e=>oA),h.o.DZ.kp k a (fun k e=>oA),h.o.DY.kp k a (fun k e=>oA),h.o.lines.kp k a (fun k e=>by rcases e with e|⟨i,e⟩<;>omega),h.o.bits.kp k a (fun k e=>oA),h.o.D6.kp k a (fun k e=>oA),h.o.ready.kp k a (fun k e=>by rcases e with e|⟨i,e⟩<;>omega),h.o.D9.kp k a (fun k e=>by rcases e with e|⟨i,e⟩<;>omega),h.o.Ee.kp k a (fun k e=>oA),rfl⟩⟩,.of k (fun b e=>oA) a⟩;by_cases e:j=10
 ·subst e
  cases c
  exact cR _ _ _ (h.r 10 _ rfl)
 ·rw[aJ _ _ _ _ (by intro e2;have:=cX Addr.off e2;simp only at this;omega)];refine h.r j v ?_;rcases j with _|_|_|_|_|_|_|_|_|_|j
  all_goals first|exact c|skip
  cases j with
  |zero=>exact absurd rfl e
  |succ j=>cases c
def Sp (p:PW) (wb:Nat) (tag:Nat->Nat) (W W':World):Prop:=∃(tag':Nat->Nat) (V':Nat->Value) (q:PW),Kt tag tag' W W'∧cb W' wb tag' V' q∧Lv q∧q.kinds.length=p.kinds.length∧q.time=p.time+1∧q.D9.length=p.D9.length
theorem Dn.back {p:PW} {wb:Nat} {tag0:Nat->Nat} {w0 w1 W:World} {l:List Nat} (h:Dn p wb tag0 w1 l W) (a:Below w0.heap.size w0 w1) (c:wb<w0.heap.size):Dn p wb tag0 w0 l W:=by
 obtain⟨tag,V,q,bt,d,kt,ow,e⟩:=h;exact⟨tag,V,q,bt,d,(bf a).trans kt,fun k hk=>⟨(ow k hk).1,aB a.size (ow k hk).2.1,(ow k hk).2.2⟩,fun j v b=>(a.cell (p:=⟨wb,0+j,none⟩) c).symm.trans (e j v b)⟩
theorem rL {ρ:Operand->Value} {o:Oper} {W:World} {x:Operand} (c:o.op=.load 45 x) {b k:Nat} (d:ρ x=.pointer (some ⟨b,k,none⟩)) {cs:List Value} (hl:cs.length=20) (a:W.rangeAt b k cs):(execOp ρ o).run Tryz.prog W=.ok (.value (.agg cs.toArray)) W:=by
 unfold execOp;simp only[c,d,Instr.loadAt,Instr.sureAddr,Sem.run_bind,Sem.run_pure,Result.andThen_ok,run_loadVar_mid W b k 45 cs _ a Tryz.underlying45 rfl (by rw[i7,hl])]
theorem Dn.there {p:PW} {wb:Nat} {tag0:Nat->Nat} {w1 W:World} {l:List Nat} (h:Dn p wb tag0 w1 l W) {b n:Nat} (a:w1.there b 0 n) (c:tag0 b=0):W.there b 0 n:=by
 obtain⟨tag,V,q,bt,d,kt,ow,e⟩:=h;exact kt.there a c
theorem cb.FB {W:World} {wb:Nat} {tag:Nat->Nat} {V:Nat->Value} {p:PW} (h:cb W wb tag V p) {g cap:Nat} (e:V 3=.slice (some ⟨g,0,none⟩) p.DY.length cap) {i:Nat} (hi:i<p.DY.length):W.rangeAt g (i*20) (cf 20 (p.t i)):=fun j v a=>by
 have b:j<20:=by have:=(List.getElem?_eq_some_iff.1 a).1;simpa [cf] using this
 rw[dp 20 _ j b] at a
 cases a
 exact h.Ec e hi b
theorem u6 (wb:Nat) (tag:Nat->Nat) (V:Nat->Value) (p:PW) (c:Nat) (w:World) (bt:cb w wb tag V p) (hp:Lv p) (ht:p.time+1<=1000000) (hc:c<p.D6.length):
  Calls Tryz.prog 20 #[.pointer (some ⟨wb,0,none⟩),.int .i64 (c:Int)] w fun r w'=>r=.returned (.tuple #[])∧Sp p wb tag w w':=by
 have HP:=hid hp;have HT:=hid ht;have aQ:=hid hc;obtain⟨aW,a3⟩:=hV bt;have a5:=hid aW;have ac:=hid a3;have CS:=hid (fun t1 t2=>show kD [(w.heap.size,.pointer (some ⟨wb,0,none⟩)),(w.heap.size+1,.int .i64 (c:Int))] (iD tag w.heap.size) ((w.alloc (.cells #[.pointer (some ⟨wb,0,none⟩)] t1)).alloc (.cells #[.int .i64 (c:Int)] t2)) from by
  intro x hx;rcases bM.1 hx with rfl|hx
  ·exact⟨cu (bal (ai _ _) _) (ah (gK w [.pointer (some ⟨wb,0,none⟩)] t1 _ rfl) rfl),eW (ar _)⟩
  ·obtain rfl:=bU.1 hx;exact⟨ah (gK (w.alloc (.cells #[.pointer (some ⟨wb,0,none⟩)] t1)) [.int .i64 (c:Int)] t2 _ oS) rfl,eW (Nat.le_succ _)⟩)
 have BS:=hid (fun o1 o2=>bal (bal (ai w.heap.size w) o1) o2);clear bt hp ht hc aW a3;go_enter Tryz.func20,Tryz.ntmps20
 go_upto_region 1 with fail
 generalize H:World.alloc (World.alloc _ _) _=W0;have B0:=hid (show Below w.heap.size w W0 by rw[<-H];exact BS _ _);have Q:=hid (show kD [(w.heap.size,.pointer (some ⟨wb,0,none⟩)),(w.heap.size+1,.int .i64 (c:Int))] (iD tag w.heap.size) W0 by rw[<-H];exact CS _ _);clear H BS CS;have u:=(Q.out (w.heap.size,.pointer (some ⟨wb,0,none⟩)) oS).1;have L:=(Q.out (w.heap.size+1,.int .i64 (c:Int)) oS).1;change W0.cell? ⟨w.heap.size,0,none⟩=some (.pointer (some ⟨wb,0,none⟩)) at u;change W0.cell? ⟨w.heap.size+1,0,none⟩=some (.int .i64 (c:Int)) at L;go_wp2_with fail
 refine (uX wb (iD tag w.heap.size) V p c W0 (a5.below B0) HP aQ).mono ?_;rintro r w1 ⟨rfl,aj,V1,p1,k1,aF,ap⟩;clear u L;have Z:=hid ap;have lf:=ap.w.w.m.tk.lf;have aZ:c<p1.D6.length:=by rw[ap.co HP];exact aQ
 have bg:(c:Int)<(p1.D6.length:Int):=oA;have bk:(p1.D6.length:Int)<=1000:=by have:=ap.w.w.fits.D6;omega
 have a6:=hid (show c<p1.D9.length by have:=lf.D9;omega);obtain⟨g6,k6,e6⟩:=aF.o.D6.form oA;go_upto_region 2 with fail
 have P:=hid (show Below w1.heap.size w1 w1.drew from aC w1 1);obtain⟨au,a4⟩:=hV (aF.below P);have KX:=hid ((k1.trans (bf P)).trans a4);have CX:=hid (Q.kt KX);obtain⟨z,hz⟩:∃z,p1.co c=z:=⟨_,rfl⟩
 have x6:w1.drew.cell? ⟨g6,c,none⟩=some (.int .i64 z):=by rw[(au.Eg e6 aZ).1];exact cX (fun z=>some (Value.int .i64 z)) hz
 have c6:w1.drew.cell? ⟨wb,6,none⟩=some (.slice (some ⟨g6,0,none⟩) p1.D6.length k6):=by rw[ah au.r (k:=6) rfl,e6]
 have aw:=hid au;have HZ:=hid hz;have SS:=hid (show (fun W=>W.cell? ⟨w.heap.size,0,none⟩=some (.pointer (some ⟨wb,0,none⟩))∧W.cell? ⟨w.heap.size+1,0,none⟩=some (.int .i64 (c:Int))∧W.cell? ⟨wb,6,none⟩=some (.slice (some ⟨g6,0,none⟩) p1.D6.length k6)∧W.cell? ⟨g6,c,none⟩=some (.int .i64 z)) w1.drew from⟨(CX.out (w.heap.size,_) oS).1,(CX.out (w.heap.size+1,_) oS).1,c6,x6⟩);have SB:=hid (fun W (h:Below w1.drew.heap.size w1.drew W)=>show (fun W=>W.cell? ⟨w.heap.size,0,none⟩=some (.pointer (some ⟨wb,0,none⟩))∧W.cell? ⟨w.heap.size+1,0,none⟩=some (.int .i64 (c:Int))∧W.cell? ⟨wb,6,none⟩=some (.slice (some ⟨g6,0,none⟩) p1.D6.length k6)∧W.cell? ⟨g6,c,none⟩=some (.int .i64 z)) W from⟨cu h SS.1,cu h SS.2.1,cu h SS.2.2.1,cu h SS.2.2.2⟩);clear x6 c6 aF au k1 a4 P e6 ap hz lf aZ;refine Rf.d7 (S:=fun W=>W.cell? ⟨w.heap.size,0,none⟩=some (.pointer (some ⟨wb,0,none⟩))∧W.cell? ⟨w.heap.size+1,0,none⟩=some (.int .i64 (c:Int))∧W.cell? ⟨wb,6,none⟩=some (.slice (some ⟨g6,0,none⟩) p1.D6.length k6)∧W.cell? ⟨g6,c,none⟩=some (.int .i64 z)) (R:=fun _=>True) [] oK SS trivial (fun _ _=>?_);generalize w1.drew=F at*;refine bD oK _ SS trivial [0,1,2,3,4,5,6] 2 _ _ oK ?_
 repeat (refine Rf.rs ?_;try simp only[jj])
 refine aG ?_;refine Rf.r1 7 rfl (fun K B=>?_);refine wnt oR ?_;go_simp
 refine B _ _ (SB.out _ (bal (ai _ _) _)) (fun _=>trivial) (fun _ _=>?_);clear B K
 try simp only[jj]
 refine Rf.r1 8 rfl (fun K B=>?_);refine wnt oR ?_;go_simp
 refine B _ _ (SB.out _ (bal (ai _ _) _)) (fun _=>trivial) (fun _ _=>?_);clear B K
 try simp only[jj]
 refine aO oK ?_ _;have aL:=hid (fun o=>bal (ai F.heap.size F) o);have aV:=hid (fun t=>ah (gK F [.int .i64 z] t _ rfl) (k:=0) rfl);generalize H:World.alloc _ _=D;have B2:=hid (show Below F.heap.size F D by rw[<-H];exact aL _);have x4:D.cell? ⟨F.heap.size,0,none⟩=some (.int .i64 z):=by rw[<-H];exact aV _
 clear H aL aV;obtain⟨u,L, -, -⟩:=SB.out _ B2;clear SB SS;rcases Z.w.w.m.tk.q.cr c with e|⟨t,e,_,h6,_⟩
 ·rw[HZ.out] at e;subst e;have G:=hid (show Bx p wb (iD tag w.heap.size) W0 D from⟨_,V1,p1,KX.trans (bf B2),aw.below B2,Z.out⟩);clear u L;go_upto_region 16 with fail
  clear x4;obtain⟨tg,X,q,y,j,d⟩:=G.out;have u:=((Q.kt y) (w.heap.size,.pointer (some ⟨wb,0,none⟩)) oS).1;change D.cell? ⟨w.heap.size,0,none⟩=_ at u;have al:D.cell? ⟨wb,10,none⟩=some (.int .i64 q.time):=by rw[ah j.r (k:=10) rfl,j.o.time]
  have fr:D.frozen? ⟨wb,10,none⟩=false:=(j.t 10 oD).2;have A:=hid (j.tick (q.time+1));have m0:0<=q.time:=d.w.w.tm;have m1:q.time+1<=1000000:=by rw[d.t];exact HT
  have N:=hid (show Sp p wb tag w (D.setCell ⟨wb,10,none⟩ (.int .i64 (q.time+1))) from⟨tg,_,_,((ac.trans (bf B0)).trans y).trans A.2,A.1,⟨d.w.w.tick,m1⟩,d.k,by show q.time+1=p.time+1;rw[d.t],d.c⟩);clear j y d A G;go_wp2_with fail
  exact aX (aK rfl _ _ _) rfl ⟨rfl,N.out⟩
 ·rw[HZ.out] at e;subst e;have H6:=hid h6;have a7:=hid (show p1.co c=t from HZ);have an:=hid (aw.below B2);have ax:=hid (show kD [(w.heap.size,.pointer (some ⟨wb,0,none⟩)),(w.heap.size+1,.int .i64 (c:Int)),(F.heap.size,.int .i64 (t:Int))] (iD aj F.heap.size) D from fun x hx=>by
   rcases bM.1 hx with rfl|hx
   ·exact⟨u,(CX.out (w.heap.size,_) oS).2⟩
   rcases bM.1 hx with rfl|hx
   ·exact⟨L,(CX.out (w.heap.size+1,_) oS).2⟩
   obtain rfl:=bU.1 hx;exact⟨x4,eW (ar _)⟩)
  have a9:=hZ (p:=p1) (f:=t) (by rw[h6];decide);have a2:t<p1.DY.length:=by have:=Z.w.w.m.tk.lf.DY;omega
  have bo:(t:Int)<(p1.DY.length:Int):=oA;have bp:(p1.DY.length:Int)<=1000:=by have:=Z.w.w.fits.DY;omega
  have bn:(0:Int)<=(t:Int):=oA;have aR:=hid a2;have aS:=hid (aE aw.lt B2.size);obtain⟨gt,kt,e3⟩:=an.o.DY.form oA;have E3:=hid e3;have HF:=hid (fun k (hk:k<9)=>Z.w.w.m.tk.word h6 (k:=k) (.inl oA));have c3:=hid (show D.cell? ⟨wb,3,none⟩=some (.slice (some ⟨gt,0,none⟩) p1.DY.length kt) by rw[ah an.r (k:=3) rfl,e3]);obtain⟨f,hf⟩:∃f,p1.t t=f:=⟨_,rfl⟩
  rw[hf] at HF;have aD:=hid hf;have D2:=hid (Dn.start Z.w an);have O:=hid (fun l W (h:Dn p1 wb (iD aj F.heap.size) D l W)=>show (fun W=>W.cell? ⟨w.heap.size,0,none⟩=some (.pointer (some ⟨wb,0,none⟩))∧W.cell? ⟨wb,3,none⟩=some (.slice (some ⟨gt,0,none⟩) p1.DY.length kt)∧W.cell? ⟨F.heap.size,0,none⟩=some (.int .i64 (t:Int))∧W.rangeAt gt (t*20) (cf 20 f)) W from by
   obtain⟨tag',V',q,bt,⟨sm,X,R,e⟩,kk,ow,rr⟩:=h;have cc:=ax.kt kk;have E:V' 3=.slice (some ⟨gt,0,none⟩) p1.DY.length kt:=aH ((ah rr (k:=3) rfl).symm.trans c3);subst e;have ba:=bt.FB E (i:=t) aR;refine⟨(cc (w.heap.size,_) oS).1,(ah bt.r (k:=3) rfl).trans (cX some E),(cc (F.heap.size,_) oS).1,?_⟩;rw[<-aD.out];exact ba)
  have aq:=hid (fun W (h:Below D.heap.size D W)=>AI p1 wb (iD aj F.heap.size) V1 w.heap.size (w.heap.size+1) F.heap.size c t f W (an.below h) Z.w a6 H6 (ax.kt (bf h)) HF);unfold ptr at aq;clear e3 hf a2 h6 a9 u L CX;go_upto_region 6 with fail
  clear x4;go_cut [7,8,9] (fun r7 r8 r9 wx=>∃(b7:Nat) (g:Nat->Int) (E n:Int),r7=.pointer (some ⟨b7,0,none⟩)∧r8=.int .i64 E∧r9=.int .i64 n∧Hid (Gq f g)∧Hid ((0<=E∧E<=3)∧(-32768<=n∧n<=65535)∧(E=2-> -1<=n))∧Hid (wx.rangeAt b7 0 (cf 20 g))∧Hid (Dn p1 wb (iD aj F.heap.size) D [b7] wx))
  case first=>
   have D0:=hid (D2.below (show Below D.heap.size D D.drew from aC D 1));have am:=hid (show Below D.heap.size D D.drew from aC D 1);have S0:=hid (O.out _ _ D0);refine Rf.d7 (S:=fun W=>W.cell? ⟨w.heap.size,0,none⟩=some (.pointer (some ⟨wb,0,none⟩))∧W.cell? ⟨wb,3,none⟩=some (.slice (some ⟨gt,0,none⟩) p1.DY.length kt)∧W.cell? ⟨F.heap.size,0,none⟩=some (.int .i64 (t:Int))∧W.rangeAt gt (t*20) (cf 20 f)) (R:=fun _=>True) [] oK S0 trivial (fun _ _=>?_);generalize D.drew=x2 at*;refine bD oK _ S0 trivial [0,1,2,3,4,5,6,7,8] 9 _ _ oK ?_
   repeat (refine Rf.wP rfl oR (fun _ _ _ _ h=>h) ?_;apply Exists.intro;refine⟨fun W h=>?_,?_⟩;(focus (obtain⟨h1,h2,h3,h4⟩:=h;first|exact rL rfl rfl (aA _ _) h4|(clear h4;go_simp;try rfl)));try simp only[jj])
   refine aG ?_;refine Rf.dw (rs:=[9,14]) oK oS (dg rfl (fun K B=>?_) (dg rfl (fun K B=>?_) Rf.di.nil))
   ·refine wnt oR ?_;go_simp
    refine (aq.out x2 am).mono ?_;rintro e w7 ⟨g,E,n,rfl,gq,ae,hn,ao,dn⟩;have GQ:=hid gq;have HN:=hid (⟨ae,hn,ao⟩:(0<=E∧E<=3)∧(-32768<=n∧n<=65535)∧(E=2-> -1<=n));have T:=hid (dn.back am aS);unfold kz;clear gq ae hn ao dn;go_wp2_with fail
    refine B _ _ (O.out _ _ T) (fun _=>trivial) (fun _ _=>?_);clear B K
    try simp only[jj]
    refine bD oK _ (O.out _ _ T) trivial [10,11,12,13] 4 _ _ oK ?_
    repeat (refine Rf.rs ?_;try simp only[jj])
    refine aG ?_;refine Rf.r1 14 rfl (fun K B=>?_);refine wnt oR ?_;go_simp
    refine B _ _ (O.out _ _ (T.alloc _)) (fun _=>trivial) (fun _ _=>?_);clear B K
    try simp only[jj]
    have DS:=hid (fun o=>T.alloc o);generalize H:World.alloc _ _=I;have D8:=hid (show Dn p1 wb (iD aj F.heap.size) D [w7.heap.size] I by rw[<-H];exact DS _);have T8:=hid (show I.there w7.heap.size 0 20 by rw[<-H];exact aY _ _ _ _ _ rfl oD);clear H DS T;refine Rf.r1 15 rfl (fun K B=>?_);refine wnt oR ?_;refine wp_store_mid _ _ _ rfl _ _ (cf 20 g).toArray rfl rfl (by simpa [g5] using T8.out) (by rw[i7];simp[g5]) (all_oneCell_toArray (bR 20 g)) ?_;have M:=hid (D8.kp (aI (b:=w7.heap.size) (.inl oS) (cf 20 g) 0 _ (aP _ _)));have Y:=hid (World.rangeAt_setCells_same _ w7.heap.size 0 (cf 20 g) (by rw[aA];exact T8));refine B _ _ (O.out _ _ M) (fun _=>trivial) (fun _ _=>?_);clear B K T8 D8;generalize World.setCells _ _ _ _=C at M Y ⊢
    try simp only[jj]
    refine bD oK _ (O.out _ _ M) trivial [16,17] 0 _ _ oK ?_
    repeat (refine Rf.rs ?_;try simp only[jj])
    refine aG ?_;refine aO oK ?_ _;go_wp2_with fail
    go_meet
    exact⟨_,g,E,n,rfl,rfl,rfl,GQ,HN,Y,M⟩
   ·refine wnt oR ?_;go_simp
    refine B _ _ (O.out _ _ (D0.alloc _)) (fun _=>trivial) (fun _ _=>?_);clear B K
    try simp only[jj]
    have BS:=hid (fun o=>bal am o);generalize H:World.alloc _ _=x3;have aM:=hid (show Below D.heap.size D x3 by rw[<-H];exact BS _);have T8:=hid (show x3.there x2.heap.size 0 20 by rw[<-H];exact aY _ _ _ _ _ rfl oD);have S8:=hid (show x2.heap.size<x3.heap.size by rw[<-H];simp);have Z8:=hid (show iD aj F.heap.size x2.heap.size=0 from eW (aB B2.size am.size));clear H BS;refine Rf.r1 9 rfl (fun K B=>?_);refine wnt oR ?_;go_simp
    refine (aq.out x3 aM).mono ?_;rintro e w7 ⟨g,E,n,rfl,gq,ae,hn,ao,dn⟩;have GQ:=hid gq;have HN:=hid (⟨ae,hn,ao⟩:(0<=E∧E<=3)∧(-32768<=n∧n<=65535)∧(E=2-> -1<=n));have T:=hid (dn.pre aM am.size S8 Z8 aS);replace T8:=hid (dn.there T8 Z8);unfold kz;clear gq ae hn ao dn;go_wp2_with fail
    refine B _ _ (O.out _ _ T) (fun _=>trivial) (fun _ _=>?_);clear B K
    try simp only[jj]
    refine bD oK _ (O.out _ _ T) trivial [10,11,12,13] 3 _ _ oK ?_
    repeat (refine Rf.rs ?_;try simp only[jj])
    refine aG ?_;refine Rf.r1 15 rfl (fun K B=>?_);refine wnt oR ?_;refine wp_store_mid _ _ _ rfl _ _ (cf 20 g).toArray rfl rfl (by simpa [g5] using T8.out) (by rw[i7];simp[g5]) (all_oneCell_toArray (bR 20 g)) ?_;have M:=hid (T.kp (aI (b:=x2.heap.size) (.inl oS) (cf 20 g) 0 _ (aP _ _)));have Y:=hid (World.rangeAt_setCells_same _ x2.heap.size 0 (cf 20 g) (by rw[aA];exact T8));refine B _ _ (O.out _ _ M) (fun _=>trivial) (fun _ _=>?_);clear B K T8 T;generalize World.setCells _ _ _ _=C at M Y ⊢
    try simp only[jj]
    refine bD oK _ (O.out _ _ M) trivial [16,17] 0 _ _ oK ?_
    repeat (refine Rf.rs ?_;try simp only[jj])
    refine aG ?_;refine aO oK ?_ _;go_wp2_with fail
    go_meet
    exact⟨_,g,E,n,rfl,rfl,rfl,GQ,HN,Y,M⟩
  case rest=>
   obtain⟨b7,g,E,n,rfl,rfl,rfl,GQ,HN,Y,M⟩:=hcut;clear aq c3 D2;obtain⟨tg,V',q,j,⟨sm,XX,RR,eq⟩,y,ow,rr⟩:=M.out;have KQ:=hid y;obtain⟨z7,l7,m7⟩:=ow b7 (bU.2 rfl);have Z7:=hid z7;have aJ:V' 3=.slice (some ⟨gt,0,none⟩) q.DY.length kt:=by
    rw[eq];have e1:=(ah rr (k:=3) rfl).symm.trans (ah an.r (k:=3) rfl);exact (aH e1).trans E3
   have a0:t<q.DY.length:=by rw[eq];exact aR
   have P:=hid (show Below wc.heap.size wc wc.drew from aC wc 1);have TH:=hid ((j.below P).EI aJ (t*20) 20 oA);have aU:=hid ((j.below P).Fb aJ a0 g);have G6:=hid (show q.k t=6 by rw[eq];exact H6);have SR:=hid (sm.w.row G6 (g:=g) (by rw[eq];show Gq (p1.t t) g;rw[aD.out];exact GQ));have SQ:=hid sm;have CQ:=hid (show q.co c=t by rw[eq];exact a7);have KK:=hid (show ∀k,q.k k=p1.k k from fun k=>by rw[eq]);obtain⟨u,c3,U, -⟩:=O.out _ _ (M.below P);have S7:=hid (show (fun W=>W.cell? ⟨w.heap.size,0,none⟩=some (.pointer (some ⟨wb,0,none⟩))∧W.cell? ⟨wb,3,none⟩=some (.slice (some ⟨gt,0,none⟩) p1.DY.length kt)∧W.cell? ⟨F.heap.size,0,none⟩=some (.int .i64 (t:Int))∧W.rangeAt b7 0 (cf 20 g)) wc.drew from⟨u,c3,U,dV Y P⟩);have E7:=hid (dV Y P);clear j sm y ow rr z7 l7 m7 u c3 U aJ a0 eq M O Y;go_upto_region 7 with fail
   refine bj (R:=fun W=>W.cell? ⟨w.heap.size,0,none⟩=some (.pointer (some ⟨wb,0,none⟩))∧W.cell? ⟨wb,3,none⟩=some (.slice (some ⟨gt,0,none⟩) p1.DY.length kt)∧W.cell? ⟨F.heap.size,0,none⟩=some (.int .i64 (t:Int))∧W.rangeAt b7 0 (cf 20 g)) [7] [0,1,2,3,4,5,6] 1 oK S7 oK oK oK (fun _=>?_);generalize wc.drew=x7 at*
   repeat (refine Rf.wP rfl oR (fun _ _ _ _ h=>h) ?_;apply Exists.intro;refine⟨fun W h=>?_,?_⟩;(focus (obtain⟨h1,h2,h3,h4⟩:=h;first|exact rL rfl rfl (aA _ _) h4|(clear h4;go_simp;try rfl)));try simp only[jj])
   refine aG ?_;refine Rf.r1 7 rfl (fun K B=>?_);refine wnt oR ?_;refine wp_store_mid _ _ _ rfl _ _ (cf 20 g).toArray rfl rfl (by simpa [g5] using TH.out) (by rw[i7];simp[g5]) (all_oneCell_toArray (bR 20 g)) ?_;refine B _ _ trivial (bK oK) (fun _ _=>?_);clear B K TH S7
   try simp only[jj]
   refine aO oK ?_ _;obtain⟨b8,k8⟩:=aU.out;have ab:=hid b8;have aT:=hid ((KQ.trans (bf P)).trans k8);have E8:=hid (dY E7 k8.k (fun e=>e Z7));have ag:=hid ((KX.trans (bf B2)).trans aT);have C8:=hid (ax.kt aT);have ad:=hid (SQ.trans SR);have az:=hid (Z.w.w.m.tk.a.ok t H6 13 oD);change Hid (fB p1 (p1.t t 13) 7=true) at az;rw[aD.out, <-GQ.s 13 oD] at az;clear b8 k8 aU P E7 Z7 KQ SR SQ;generalize av:({q with DY:=q.DY.set t g}:PW)=q2 at ab ad;have aN:=hid (show q2.k t=6 by rw[<-av];exact G6);have ay:=hid (show q2.co c=t by rw[<-av];exact CQ);have a8:=hid (show ∀k,q2.k k=p1.k k from fun k=>by rw[<-av];exact KK k);clear av G6 CQ KK;generalize World.setCells _ _ _ _=I at*;have u:=(C8.out (w.heap.size,.pointer (some ⟨wb,0,none⟩)) oS).1;have L:=(C8.out (w.heap.size+1,.int .i64 (c:Int)) oS).1;have U:=(C8.out (F.heap.size,.int .i64 (t:Int)) oS).1;change I.cell? ⟨w.heap.size,0,none⟩=some (.pointer (some ⟨wb,0,none⟩)) at u;change I.cell? ⟨w.heap.size+1,0,none⟩=some (.int .i64 (c:Int)) at L;change I.cell? ⟨F.heap.size,0,none⟩=some (.int .i64 (t:Int)) at U;have y7:=ah E8 (dp 20 g 13 oD);have af:=hid (Z.trans ad);obtain⟨⟨bb,bc⟩,⟨n0,n1⟩,n2⟩:=HN.out;have ae:E=0∨E=1∨E=2∨E=3:=oA;rcases ae with rfl|rfl|rfl|rfl
   ·have G:=hid (show Bx p wb (iD tag w.heap.size) W0 I from⟨tg,V',q2,ag.out,ab.out,af.out⟩);go_upto_region 16 with fail
    clear u L U y7;obtain⟨tg,X,q,y,j,d⟩:=G.out;have u:=((Q.kt y) (w.heap.size,.pointer (some ⟨wb,0,none⟩)) oS).1;change I.cell? ⟨w.heap.size,0,none⟩=_ at u;have al:I.cell? ⟨wb,10,none⟩=some (.int .i64 q.time):=by rw[ah j.r (k:=10) rfl,j.o.time]
    have fr:I.frozen? ⟨wb,10,none⟩=false:=(j.t 10 oD).2;have A:=hid (j.tick (q.time+1));have m0:0<=q.time:=d.w.w.tm;have m1:q.time+1<=1000000:=by rw[d.t];exact HT
    have N:=hid (show Sp p wb tag w (I.setCell ⟨wb,10,none⟩ (.int .i64 (q.time+1))) from⟨tg,_,_,((ac.trans (bf B0)).trans y).trans A.2,A.1,⟨d.w.w.tick,m1⟩,d.k,by show q.time+1=p.time+1;rw[d.t],d.c⟩);clear j y d A G;go_wp2_with fail
    exact aX (aK rfl _ _ _) rfl ⟨rfl,N.out⟩
   ·go_wp2_with fail
    refine (s3 wb tg V' q2 c t n I ab ad.w ay).mono ?_;rintro r C ⟨rfl,J⟩;have G:=hid (Bx.trans ag af J);clear J u L U y7;go_upto_region 16 with fail
    obtain⟨tg,X,q,y,j,d⟩:=G.out;have u:=((Q.kt y) (w.heap.size,.pointer (some ⟨wb,0,none⟩)) oS).1;change C.cell? ⟨w.heap.size,0,none⟩=_ at u;have al:C.cell? ⟨wb,10,none⟩=some (.int .i64 q.time):=by rw[ah j.r (k:=10) rfl,j.o.time]
    have fr:C.frozen? ⟨wb,10,none⟩=false:=(j.t 10 oD).2;have A:=hid (j.tick (q.time+1));have m0:0<=q.time:=d.w.w.tm;have m1:q.time+1<=1000000:=by rw[d.t];exact HT
    have N:=hid (show Sp p wb tag w (C.setCell ⟨wb,10,none⟩ (.int .i64 (q.time+1))) from⟨tg,_,_,((ac.trans (bf B0)).trans y).trans A.2,A.1,⟨d.w.w.tick,m1⟩,d.k,by show q.time+1=p.time+1;rw[d.t],d.c⟩);clear j y d A G;go_wp2_with fail
    exact aX (aK rfl _ _ _) rfl ⟨rfl,N.out⟩
   ·have br:=n2 rfl;have aa:=az.out;unfold fB at aa;rw[bT,bh] at aa;rcases aa with aa|aa
    ·rw[aa] at y7;go_wp2_with fail
     refine (lN wb tg V' q2 t I ab ad.w aN).mono ?_;rintro r C ⟨rfl,J⟩;have G:=hid (Bx.trans ag af J);clear J u L U y7;go_upto_region 16 with fail
     obtain⟨tg,X,q,y,j,d⟩:=G.out;have u:=((Q.kt y) (w.heap.size,.pointer (some ⟨wb,0,none⟩)) oS).1;change C.cell? ⟨w.heap.size,0,none⟩=_ at u;have al:C.cell? ⟨wb,10,none⟩=some (.int .i64 q.time):=by rw[ah j.r (k:=10) rfl,j.o.time]
     have fr:C.frozen? ⟨wb,10,none⟩=false:=(j.t 10 oD).2;have A:=hid (j.tick (q.time+1));have m0:0<=q.time:=d.w.w.tm;have m1:q.time+1<=1000000:=by rw[d.t];exact HT
     have N:=hid (show Sp p wb tag w (C.setCell ⟨wb,10,none⟩ (.int .i64 (q.time+1))) from⟨tg,_,_,((ac.trans (bf B0)).trans y).trans A.2,A.1,⟨d.w.w.tick,m1⟩,d.k,by show q.time+1=p.time+1;rw[d.t],d.c⟩);clear j y d A G;go_wp2_with fail
     exact aX (aK rfl _ _ _) rfl ⟨rfl,N.out⟩
    ·obtain⟨dd,d1,_,d3⟩:=eU aa;rw[d1] at y7;have D7:=hid (show q2.k dd=7 by rw[a8.out];exact d3);clear aa d1 d3;by_cases hn:n<0
     ·obtain rfl:n= -1:=oA;go_wp2_with fail
      refine (iq ad.w ay D7 (b:=0) (v:=65535) (c:=true) oD oD I wb tg V' ab).mono ?_;rintro r C ⟨rfl,J⟩;have G:=hid (Bx.trans ag af J);clear J u L U y7;go_upto_region 16 with fail
      obtain⟨tg,X,q,y,j,d⟩:=G.out;have u:=((Q.kt y) (w.heap.size,.pointer (some ⟨wb,0,none⟩)) oS).1;change C.cell? ⟨w.heap.size,0,none⟩=_ at u;have al:C.cell? ⟨wb,10,none⟩=some (.int .i64 q.time):=by rw[ah j.r (k:=10) rfl,j.o.time]
      have fr:C.frozen? ⟨wb,10,none⟩=false:=(j.t 10 oD).2;have A:=hid (j.tick (q.time+1));have m0:0<=q.time:=d.w.w.tm;have m1:q.time+1<=1000000:=by rw[d.t];exact HT
      have N:=hid (show Sp p wb tag w (C.setCell ⟨wb,10,none⟩ (.int .i64 (q.time+1))) from⟨tg,_,_,((ac.trans (bf B0)).trans y).trans A.2,A.1,⟨d.w.w.tick,m1⟩,d.k,by show q.time+1=p.time+1;rw[d.t],d.c⟩);clear j y d A G;go_wp2_with fail
      exact aX (aK rfl _ _ _) rfl ⟨rfl,N.out⟩
     ·go_wp2_with fail
      refine (iq ad.w ay D7 (b:=0) (v:=n) (c:=true) oD oA I wb tg V' ab).mono ?_;rintro r C ⟨rfl,J⟩;have G:=hid (Bx.trans ag af J);clear J u L U y7;go_upto_region 16 with fail
      obtain⟨tg,X,q,y,j,d⟩:=G.out;have u:=((Q.kt y) (w.heap.size,.pointer (some ⟨wb,0,none⟩)) oS).1;change C.cell? ⟨w.heap.size,0,none⟩=_ at u;have al:C.cell? ⟨wb,10,none⟩=some (.int .i64 q.time):=by rw[ah j.r (k:=10) rfl,j.o.time]
      have fr:C.frozen? ⟨wb,10,none⟩=false:=(j.t 10 oD).2;have A:=hid (j.tick (q.time+1));have m0:0<=q.time:=d.w.w.tm;have m1:q.time+1<=1000000:=by rw[d.t];exact HT
      have N:=hid (show Sp p wb tag w (C.setCell ⟨wb,10,none⟩ (.int .i64 (q.time+1))) from⟨tg,_,_,((ac.trans (bf B0)).trans y).trans A.2,A.1,⟨d.w.w.tick,m1⟩,d.k,by show q.time+1=p.time+1;rw[d.t],d.c⟩);clear j y d A G;go_wp2_with fail
      exact aX (aK rfl _ _ _) rfl ⟨rfl,N.out⟩
   ·go_wp2_with fail
    refine (lN wb tg V' q2 t I ab ad.w aN).mono ?_;rintro r C ⟨rfl,J⟩;have G:=hid (Bx.trans ag af J);clear J u L U y7;go_upto_region 16 with fail
    obtain⟨tg,X,q,y,j,d⟩:=G.out;have u:=((Q.kt y) (w.heap.size,.pointer (some ⟨wb,0,none⟩)) oS).1;change C.cell? ⟨w.heap.size,0,none⟩=_ at u;have al:C.cell? ⟨wb,10,none⟩=some (.int .i64 q.time):=by rw[ah j.r (k:=10) rfl,j.o.time]
    have fr:C.frozen? ⟨wb,10,none⟩=false:=(j.t 10 oD).2;have A:=hid (j.tick (q.time+1));have m0:0<=q.time:=d.w.w.tm;have m1:q.time+1<=1000000:=by rw[d.t];exact HT
    have N:=hid (show Sp p wb tag w (C.setCell ⟨wb,10,none⟩ (.int .i64 (q.time+1))) from⟨tg,_,_,((ac.trans (bf B0)).trans y).trans A.2,A.1,⟨d.w.w.tick,m1⟩,d.k,by show q.time+1=p.time+1;rw[d.t],d.c⟩);clear j y d A G;go_wp2_with fail
    exact aX (aK rfl _ _ _) rfl ⟨rfl,N.out⟩
