/- Qbs -/
import Derived.Test.YtaejnmmpddbbjaaGreatDoorQbq
import Derived.Test.YtaejnmmpddbbjaaGreatDoorQbr
namespace Go.Proofs.YtaejnmmpddbbjaaGreatDoor.Wd
open Go.RowKit Mem Bw Nums Mmu
theorem BoxT.tick {W:World} {wb:Nat} {tag:Nat→Nat} {V:Nat→Value} {p:PW} (h:BoxT W wb tag V p) (x:Int):
  BoxT (W.setCell ⟨wb,10,none⟩ (.int .i64 x)) wb tag (fun k=>if k=10 then .int .i64 x else V k) {p with time:=x}∧Kt tag tag W (W.setCell ⟨wb,10,none⟩ (.int .i64 x)):=by
 have k:Kp (fun k=>tag k=1) W (W.setCell ⟨wb,10,none⟩ (.int .i64 x)):=(aR _ W).setCell (b:=wb) (o:=10) (.inl h.g) _;have a:∀k,k<W.heap.size→tag k=tag k:=fun _ _=>rfl;refine⟨⟨fun j v c=>?_,there_set h.t _ _,h.g,⟨h.o.ram.kp k a (fun k e=>by omega),h.o.kinds.kp k a (fun k e=>by omega),h.o.slots.kp k a (fun k e=>by omega),h.o.tasks.kp k a (fun k e=>by omega),h.o.lines.kp k a (fun k e=>by rcases e with e|⟨i,e⟩<;>omega),h.o.bits.kp k a (fun k e=>by omega),h.o.cores.kp k a (fun k e=>by omega),h.o.ready.kp k a (fun k e=>by rcases e with e|⟨i,e⟩<;>omega),h.o.tlbs.kp k a (fun k e=>by rcases e with e|⟨i,e⟩<;>omega),h.o.doms.kp k a (fun k e=>by omega),rfl⟩⟩,.of k (fun b e=>by omega) a⟩;by_cases e:j=10
 ·subst e
  cases c
  exact cZ _ _ _ (h.r 10 _ rfl)
 ·rw[aI _ _ _ _ (by intro e2;have:=cX Addr.off e2;simp only at this;omega)];refine h.r j v ?_;rcases j with _|_|_|_|_|_|_|_|_|_|j
  all_goals first|exact c|skip
  cases j with
  |zero=>exact absurd rfl e
  |succ j=>cases c
def Sp (p:PW) (wb:Nat) (tag:Nat→Nat) (W W':World):Prop:=∃(tag':Nat→Nat) (V':Nat→Value) (q:PW),Kt tag tag' W W'∧BoxT W' wb tag' V' q∧Lv q∧q.kinds.length=p.kinds.length∧q.time=p.time+1∧q.tlbs.length=p.tlbs.length
theorem Dn.back {p:PW} {wb:Nat} {tag0:Nat→Nat} {w0 w1 W:World} {l:List Nat} (h:Dn p wb tag0 w1 l W) (a:Below w0.heap.size w0 w1) (c:wb<w0.heap.size):Dn p wb tag0 w0 l W:=by
 obtain⟨tag,V,q,bt,d,kt,ow,e⟩:=h;exact⟨tag,V,q,bt,d,(aW a).trans kt,fun k hk=>⟨(ow k hk).1,aD a.size (ow k hk).2.1,(ow k hk).2.2⟩,fun j v b=>(a.cell (p:=⟨wb,0+j,none⟩) c).symm.trans (e j v b)⟩
theorem run_ldT' {ρ:Operand→Value} {o:Oper} {W:World} {x:Operand} (c:o.op=.load 45 x) {b k:Nat} (d:ρ x=.pointer (some ⟨b,k,none⟩)) {cs:List Value} (hl:cs.length=20) (a:W.rangeAt b k cs):(execOp ρ o).run Tryz.prog W=.ok (.value (.agg cs.toArray)) W:=by
 unfold execOp;simp only[c,d,Instr.loadAt,Instr.sureAddr,Sem.run_bind,Sem.run_pure,Result.andThen_ok,run_loadVar_mid W b k 45 cs _ a Tryz.underlying45 rfl (by rw[info20,hl])]
theorem Dn.there {p:PW} {wb:Nat} {tag0:Nat→Nat} {w1 W:World} {l:List Nat} (h:Dn p wb tag0 w1 l W) {b n:Nat} (a:w1.there b 0 n) (c:tag0 b=0):W.there b 0 n:=by
 obtain⟨tag,V,q,bt,d,kt,ow,e⟩:=h;exact kt.there a c
theorem BoxT.taskRow {W:World} {wb:Nat} {tag:Nat→Nat} {V:Nat→Value} {p:PW} (h:BoxT W wb tag V p) {g cap:Nat} (e:V 3=.slice (some ⟨g,0,none⟩) p.tasks.length cap) {i:Nat} (hi:i<p.tasks.length):W.rangeAt g (i*20) (cf 20 (p.t i)):=fun j v a=>by
 have b:j<20:=by have:=(List.getElem?_eq_some_iff.1 a).1;simpa [cf] using this
 rw[cf_at 20 _ j b] at a
 cases a
 exact h.taskAt e hi b
set_option maxRecDepth 100000
set_option maxHeartbeats 16000000
theorem stepOf_ok (wb:Nat) (tag:Nat→Nat) (V:Nat→Value) (p:PW) (c:Nat) (w:World) (bt:BoxT w wb tag V p) (hp:Lv p) (ht:p.time+1≤1000000) (hc:c<p.cores.length):
  Calls Tryz.prog 20 #[.pointer (some ⟨wb,0,none⟩),.int .i64 (c:Int)] w fun r w'=>r=.returned (.tuple #[])∧Sp p wb tag w w':=by
 have HP:=hid hp;have HT:=hid ht;have aS:=hid hc;obtain⟨a2,a6⟩:=retagC bt;have a8:=hid a2;have ac:=hid a6;have CS:=hid (fun t1 t2=>show CapsT [(w.heap.size,.pointer (some ⟨wb,0,none⟩)),(w.heap.size+1,.int .i64 (c:Int))] (tagC tag w.heap.size) ((w.alloc (.cells #[.pointer (some ⟨wb,0,none⟩)] t1)).alloc (.cells #[.int .i64 (c:Int)] t2)) from by
  intro x hx;rcases bQ.1 hx with rfl|hx
  ·exact⟨cu (bal (aj _ _) _) (af (range_new w [.pointer (some ⟨wb,0,none⟩)] t1 _ rfl) rfl),tagC_ge (au _)⟩
  ·obtain rfl:=cg.1 hx;exact⟨af (range_new (w.alloc (.cells #[.pointer (some ⟨wb,0,none⟩)] t1)) [.int .i64 (c:Int)] t2 _ (by simp)) rfl,tagC_ge (Nat.le_succ _)⟩)
 have BS:=hid (fun o1 o2=>bal (bal (aj w.heap.size w) o1) o2);clear bt hp ht hc a2 a6;go_enter Tryz.func20,Tryz.ntmps20
 go_upto_region 1 with fail
 generalize H:World.alloc (World.alloc _ _) _=W0;have B0:=hid (show Below w.heap.size w W0 by rw[←H];exact BS _ _);have Q:=hid (show CapsT [(w.heap.size,.pointer (some ⟨wb,0,none⟩)),(w.heap.size+1,.int .i64 (c:Int))] (tagC tag w.heap.size) W0 by rw[←H];exact CS _ _);clear H BS CS;have u:=(Q.out (w.heap.size,.pointer (some ⟨wb,0,none⟩)) (by simp)).1;have L:=(Q.out (w.heap.size+1,.int .i64 (c:Int)) (by simp)).1;change W0.cell? ⟨w.heap.size,0,none⟩=some (.pointer (some ⟨wb,0,none⟩)) at u;change W0.cell? ⟨w.heap.size+1,0,none⟩=some (.int .i64 (c:Int)) at L;go_wp2_with fail
 refine (settle_ok wb (tagC tag w.heap.size) V p c W0 (a8.below B0) HP aS).mono ?_;rintro r w1 ⟨rfl,ai,V1,p1,k1,aH,ap⟩;clear u L;have Z:=hid ap;have lf:=ap.w.w.m.tk.lf;have a3:c<p1.cores.length:=by rw[ap.co HP];exact aS
 have bj:(c:Int)<(p1.cores.length:Int):=by omega
 have bk:(p1.cores.length:Int)≤1000:=by have:=ap.w.w.fits.cores;omega
 have a9:=hid (show c<p1.tlbs.length by have:=lf.tlbs;omega);obtain⟨g6,k6,e6⟩:=aH.o.cores.form (by omega);go_upto_region 2 with fail
 have P:=hid (show Below w1.heap.size w1 w1.drew from aA w1 1);obtain⟨ar,a7⟩:=retagC (aH.below P);have KX:=hid ((k1.trans (aW P)).trans a7);have CX:=hid (Q.kt KX);obtain⟨z,hz⟩:∃z,p1.co c=z:=⟨_,rfl⟩
 have x6:w1.drew.cell? ⟨g6,c,none⟩=some (.int .i64 z):=by rw[(ar.coresAt e6 a3).1];exact cX (fun z=>some (Value.int .i64 z)) hz
 have c6:w1.drew.cell? ⟨wb,6,none⟩=some (.slice (some ⟨g6,0,none⟩) p1.cores.length k6):=by rw[af ar.r (k:=6) rfl,e6]
 have aw:=hid ar;have HZ:=hid hz;have SS:=hid (show (fun W=>W.cell? ⟨w.heap.size,0,none⟩=some (.pointer (some ⟨wb,0,none⟩))∧W.cell? ⟨w.heap.size+1,0,none⟩=some (.int .i64 (c:Int))∧W.cell? ⟨wb,6,none⟩=some (.slice (some ⟨g6,0,none⟩) p1.cores.length k6)∧W.cell? ⟨g6,c,none⟩=some (.int .i64 z)) w1.drew from⟨(CX.out (w.heap.size,_) (by simp)).1,(CX.out (w.heap.size+1,_) (by simp)).1,c6,x6⟩);have SB:=hid (fun W (h:Below w1.drew.heap.size w1.drew W)=>show (fun W=>W.cell? ⟨w.heap.size,0,none⟩=some (.pointer (some ⟨wb,0,none⟩))∧W.cell? ⟨w.heap.size+1,0,none⟩=some (.int .i64 (c:Int))∧W.cell? ⟨wb,6,none⟩=some (.slice (some ⟨g6,0,none⟩) p1.cores.length k6)∧W.cell? ⟨g6,c,none⟩=some (.int .i64 z)) W from⟨cu h SS.1,cu h SS.2.1,cu h SS.2.2.1,cu h SS.2.2.2⟩);clear x6 c6 aH ar k1 a7 P e6 ap hz lf a3;refine Rf.wp_region_F (S:=fun W=>W.cell? ⟨w.heap.size,0,none⟩=some (.pointer (some ⟨wb,0,none⟩))∧W.cell? ⟨w.heap.size+1,0,none⟩=some (.int .i64 (c:Int))∧W.cell? ⟨wb,6,none⟩=some (.slice (some ⟨g6,0,none⟩) p1.cores.length k6)∧W.cell? ⟨g6,c,none⟩=some (.int .i64 z)) (R:=fun _=>True) [] (by kernel_rfl) SS trivial (fun _ _=>?_);generalize w1.drew=F at*;refine bH (by kernel_rfl) _ SS trivial [0,1,2,3,4,5,6] 2 _ _ (by kernel_rfl) ?_
 repeat (refine aJ rfl (by rfl) (fun _ _ _ _ h=>h) ?_;apply Exists.intro;refine⟨fun W h=>?_,?_⟩;(focus (obtain⟨h1,h2,h3,h4⟩:=h;go_simp;try rfl));try simp only[jj])
 refine aE ?_;refine Rf.r1 7 rfl (fun K B=>?_);refine wnt (by rfl) ?_;go_simp
 refine B _ _ (SB.out _ (bal (aj _ _) _)) (fun _=>trivial) (fun _ _=>?_);clear B K
 try simp only[jj]
 refine Rf.r1 8 rfl (fun K B=>?_);refine wnt (by rfl) ?_;go_simp
 refine B _ _ (SB.out _ (bal (aj _ _) _)) (fun _=>trivial) (fun _ _=>?_);clear B K
 try simp only[jj]
 refine aL (by kernel_rfl) ?_ _;have aO:=hid (fun o=>bal (aj F.heap.size F) o);have a0:=hid (fun t=>af (range_new F [.int .i64 z] t _ rfl) (k:=0) rfl);generalize H:World.alloc _ _=D;have B2:=hid (show Below F.heap.size F D by rw[←H];exact aO _);have x4:D.cell? ⟨F.heap.size,0,none⟩=some (.int .i64 z):=by rw[←H];exact a0 _
 clear H aO a0;obtain⟨u,L, -, -⟩:=SB.out _ B2;clear SB SS;rcases Z.w.w.m.tk.q.cr c with e|⟨t,e,_,h6,_⟩
 ·rw[HZ.out] at e;subst e;have G:=hid (show Bx p wb (tagC tag w.heap.size) W0 D from⟨_,V1,p1,KX.trans (aW B2),aw.below B2,Z.out⟩);clear u L;go_upto_region 16 with fail
  clear x4;obtain⟨tg,X,q,y,j,d⟩:=G.out;have u:=((Q.kt y) (w.heap.size,.pointer (some ⟨wb,0,none⟩)) (by simp)).1;change D.cell? ⟨w.heap.size,0,none⟩=_ at u;have al:D.cell? ⟨wb,10,none⟩=some (.int .i64 q.time):=by rw[af j.r (k:=10) rfl,j.o.time]
  have fr:D.frozen? ⟨wb,10,none⟩=false:=(j.t 10 (by decide)).2;have A:=hid (j.tick (q.time+1));have m0:0≤q.time:=d.w.w.tm;have m1:q.time+1≤1000000:=by rw[d.t];exact HT
  have N:=hid (show Sp p wb tag w (D.setCell ⟨wb,10,none⟩ (.int .i64 (q.time+1))) from⟨tg,_,_,((ac.trans (aW B0)).trans y).trans A.2,A.1,⟨d.w.w.tick,m1⟩,d.k,by show q.time+1=p.time+1;rw[d.t],d.c⟩);clear j y d A G;go_wp2_with fail
  exact aY (aN rfl _ _ _) rfl ⟨rfl,N.out⟩
 ·rw[HZ.out] at e;subst e;have H6:=hid h6;have ba:=hid (show p1.co c=t from HZ);have an:=hid (aw.below B2);have ay:=hid (show CapsT [(w.heap.size,.pointer (some ⟨wb,0,none⟩)),(w.heap.size+1,.int .i64 (c:Int)),(F.heap.size,.int .i64 (t:Int))] (tagC ai F.heap.size) D from fun x hx=>by
   rcases bQ.1 hx with rfl|hx
   ·exact⟨u,(CX.out (w.heap.size,_) (by simp)).2⟩
   rcases bQ.1 hx with rfl|hx
   ·exact⟨L,(CX.out (w.heap.size+1,_) (by simp)).2⟩
   obtain rfl:=cg.1 hx;exact⟨x4,tagC_ge (au _)⟩)
  have bc:=k_in (p:=p1) (f:=t) (by rw[h6];decide);have a5:t<p1.tasks.length:=by have:=Z.w.w.m.tk.lf.tasks;omega
  have bo:(t:Int)<(p1.tasks.length:Int):=by omega
  have br:(p1.tasks.length:Int)≤1000:=by have:=Z.w.w.fits.tasks;omega
  have bn:(0:Int)≤(t:Int):=by omega
  have aT:=hid a5;have aU:=hid (aB aw.lt B2.size);obtain⟨gt,kt,e3⟩:=an.o.tasks.form (by omega);have E3:=hid e3;have HF:=hid (fun k (hk:k<9)=>Z.w.w.m.tk.word h6 (k:=k) (.inl (by omega)));have c3:=hid (show D.cell? ⟨wb,3,none⟩=some (.slice (some ⟨gt,0,none⟩) p1.tasks.length kt) by rw[af an.r (k:=3) rfl,e3]);obtain⟨f,hf⟩:∃f,p1.t t=f:=⟨_,rfl⟩
  rw[hf] at HF;have aF:=hid hf;have D2:=hid (Dn.start Z.w an);have O:=hid (fun l W (h:Dn p1 wb (tagC ai F.heap.size) D l W)=>show (fun W=>W.cell? ⟨w.heap.size,0,none⟩=some (.pointer (some ⟨wb,0,none⟩))∧W.cell? ⟨wb,3,none⟩=some (.slice (some ⟨gt,0,none⟩) p1.tasks.length kt)∧W.cell? ⟨F.heap.size,0,none⟩=some (.int .i64 (t:Int))∧W.rangeAt gt (t*20) (cf 20 f)) W from by
   obtain⟨tag',V',q,bt,⟨sm,X,R,e⟩,kk,ow,rr⟩:=h;have cc:=ay.kt kk;have E:V' 3=.slice (some ⟨gt,0,none⟩) p1.tasks.length kt:=aK ((af rr (k:=3) rfl).symm.trans c3);subst e;have bf:=bt.taskRow E (i:=t) aT;refine⟨(cc (w.heap.size,_) (by simp)).1,(af bt.r (k:=3) rfl).trans (cX some E),(cc (F.heap.size,_) (by simp)).1,?_⟩;rw[←aF.out];exact bf)
  have aq:=hid (fun W (h:Below D.heap.size D W)=>did_ok p1 wb (tagC ai F.heap.size) V1 w.heap.size (w.heap.size+1) F.heap.size c t f W (an.below h) Z.w a9 H6 (ay.kt (aW h)) HF);unfold ptr at aq;clear e3 hf a5 h6 bc u L CX;go_upto_region 6 with fail
  clear x4;go_cut [7,8,9] (fun r7 r8 r9 wx=>∃(b7:Nat) (g:Nat→Int) (E n:Int),r7=.pointer (some ⟨b7,0,none⟩)∧r8=.int .i64 E∧r9=.int .i64 n∧Hid (Gq f g)∧Hid ((0≤E∧E≤3)∧(-32768≤n∧n≤65535)∧(E=2→ -1≤n))∧Hid (wx.rangeAt b7 0 (cf 20 g))∧Hid (Dn p1 wb (tagC ai F.heap.size) D [b7] wx))
  case first=>
   have D0:=hid (D2.below (show Below D.heap.size D D.drew from aA D 1));have am:=hid (show Below D.heap.size D D.drew from aA D 1);have S0:=hid (O.out _ _ D0);refine Rf.wp_region_F (S:=fun W=>W.cell? ⟨w.heap.size,0,none⟩=some (.pointer (some ⟨wb,0,none⟩))∧W.cell? ⟨wb,3,none⟩=some (.slice (some ⟨gt,0,none⟩) p1.tasks.length kt)∧W.cell? ⟨F.heap.size,0,none⟩=some (.int .i64 (t:Int))∧W.rangeAt gt (t*20) (cf 20 f)) (R:=fun _=>True) [] (by kernel_rfl) S0 trivial (fun _ _=>?_);generalize D.drew=x2 at*;refine bH (by kernel_rfl) _ S0 trivial [0,1,2,3,4,5,6,7,8] 9 _ _ (by kernel_rfl) ?_
   repeat (refine aJ rfl (by rfl) (fun _ _ _ _ h=>h) ?_;apply Exists.intro;refine⟨fun W h=>?_,?_⟩;(focus (obtain⟨h1,h2,h3,h4⟩:=h;first|exact run_ldT' rfl rfl (ax _ _) h4|(clear h4;go_simp;try rfl)));try simp only[jj])
   refine aE ?_;refine Rf.wpAnyF_ready (rs:=[9,14]) (by kernel_rfl) (by simp) (dO rfl (fun K B=>?_) (dO rfl (fun K B=>?_) Rf.AllReadyF.nil))
   ·refine wnt (by rfl) ?_;go_simp
    refine (aq.out x2 am).mono ?_;rintro e w7 ⟨g,E,n,rfl,gq,ae,hn,ao,dn⟩;have GQ:=hid gq;have HN:=hid (⟨ae,hn,ao⟩:(0≤E∧E≤3)∧(-32768≤n∧n≤65535)∧(E=2→ -1≤n));have T:=hid (dn.back am aU);unfold retD;clear gq ae hn ao dn;go_wp2_with fail
    refine B _ _ (O.out _ _ T) (fun _=>trivial) (fun _ _=>?_);clear B K
    try simp only[jj]
    refine bH (by kernel_rfl) _ (O.out _ _ T) trivial [10,11,12,13] 4 _ _ (by kernel_rfl) ?_
    repeat (refine aJ rfl (by rfl) (fun _ _ _ _ h=>h) ?_;apply Exists.intro;refine⟨fun W h=>?_,?_⟩;(focus (clear h;go_simp;try rfl));try simp only[jj])
    refine aE ?_;refine Rf.r1 14 rfl (fun K B=>?_);refine wnt (by rfl) ?_;go_simp
    refine B _ _ (O.out _ _ (T.alloc _)) (fun _=>trivial) (fun _ _=>?_);clear B K
    try simp only[jj]
    have DS:=hid (fun o=>T.alloc o);generalize H:World.alloc _ _=I;have D8:=hid (show Dn p1 wb (tagC ai F.heap.size) D [w7.heap.size] I by rw[←H];exact DS _);have T8:=hid (show I.there w7.heap.size 0 20 by rw[←H];exact aM _ _ _ _ _ rfl (by decide));clear H DS T;refine Rf.r1 15 rfl (fun K B=>?_);refine wnt (by rfl) ?_;refine wp_store_mid _ _ _ rfl _ _ (cf 20 g).toArray rfl rfl (by simpa [cf_len] using T8.out) (by rw[info20];simp[cf_len]) (all_oneCell_toArray (bK 20 g)) ?_;have M:=hid (D8.kp (aG (b:=w7.heap.size) (.inl (by simp)) (cf 20 g) 0 _ (aR _ _)));have Y:=hid (World.rangeAt_setCells_same _ w7.heap.size 0 (cf 20 g) (by rw[ax];exact T8));refine B _ _ (O.out _ _ M) (fun _=>trivial) (fun _ _=>?_);clear B K T8 D8;generalize World.setCells _ _ _ _=C at M Y ⊢
    try simp only[jj]
    refine bH (by kernel_rfl) _ (O.out _ _ M) trivial [16,17] 0 _ _ (by kernel_rfl) ?_
    repeat (refine aJ rfl (by rfl) (fun _ _ _ _ h=>h) ?_;apply Exists.intro;refine⟨fun W h=>?_,?_⟩;(focus (clear h;go_simp;try rfl));try simp only[jj])
    refine aE ?_;refine aL (by kernel_rfl) ?_ _;go_wp2_with fail
    go_meet
    exact⟨_,g,E,n,rfl,rfl,rfl,GQ,HN,Y,M⟩
   ·refine wnt (by rfl) ?_;go_simp
    refine B _ _ (O.out _ _ (D0.alloc _)) (fun _=>trivial) (fun _ _=>?_);clear B K
    try simp only[jj]
    have BS:=hid (fun o=>bal am o);generalize H:World.alloc _ _=x3;have aP:=hid (show Below D.heap.size D x3 by rw[←H];exact BS _);have T8:=hid (show x3.there x2.heap.size 0 20 by rw[←H];exact aM _ _ _ _ _ rfl (by decide));have S8:=hid (show x2.heap.size<x3.heap.size by rw[←H];simp);have Z8:=hid (show tagC ai F.heap.size x2.heap.size=0 from tagC_ge (aD B2.size am.size));clear H BS;refine Rf.r1 9 rfl (fun K B=>?_);refine wnt (by rfl) ?_;go_simp
    refine (aq.out x3 aP).mono ?_;rintro e w7 ⟨g,E,n,rfl,gq,ae,hn,ao,dn⟩;have GQ:=hid gq;have HN:=hid (⟨ae,hn,ao⟩:(0≤E∧E≤3)∧(-32768≤n∧n≤65535)∧(E=2→ -1≤n));have T:=hid (dn.pre aP am.size S8 Z8 aU);replace T8:=hid (dn.there T8 Z8);unfold retD;clear gq ae hn ao dn;go_wp2_with fail
    refine B _ _ (O.out _ _ T) (fun _=>trivial) (fun _ _=>?_);clear B K
    try simp only[jj]
    refine bH (by kernel_rfl) _ (O.out _ _ T) trivial [10,11,12,13] 3 _ _ (by kernel_rfl) ?_
    repeat (refine aJ rfl (by rfl) (fun _ _ _ _ h=>h) ?_;apply Exists.intro;refine⟨fun W h=>?_,?_⟩;(focus (clear h;go_simp;try rfl));try simp only[jj])
    refine aE ?_;refine Rf.r1 15 rfl (fun K B=>?_);refine wnt (by rfl) ?_;refine wp_store_mid _ _ _ rfl _ _ (cf 20 g).toArray rfl rfl (by simpa [cf_len] using T8.out) (by rw[info20];simp[cf_len]) (all_oneCell_toArray (bK 20 g)) ?_;have M:=hid (T.kp (aG (b:=x2.heap.size) (.inl (by simp)) (cf 20 g) 0 _ (aR _ _)));have Y:=hid (World.rangeAt_setCells_same _ x2.heap.size 0 (cf 20 g) (by rw[ax];exact T8));refine B _ _ (O.out _ _ M) (fun _=>trivial) (fun _ _=>?_);clear B K T8 T;generalize World.setCells _ _ _ _=C at M Y ⊢
    try simp only[jj]
    refine bH (by kernel_rfl) _ (O.out _ _ M) trivial [16,17] 0 _ _ (by kernel_rfl) ?_
    repeat (refine aJ rfl (by rfl) (fun _ _ _ _ h=>h) ?_;apply Exists.intro;refine⟨fun W h=>?_,?_⟩;(focus (clear h;go_simp;try rfl));try simp only[jj])
    refine aE ?_;refine aL (by kernel_rfl) ?_ _;go_wp2_with fail
    go_meet
    exact⟨_,g,E,n,rfl,rfl,rfl,GQ,HN,Y,M⟩
  case rest=>
   obtain⟨b7,g,E,n,rfl,rfl,rfl,GQ,HN,Y,M⟩:=hcut;clear aq c3 D2;obtain⟨tg,V',q,j,⟨sm,XX,RR,eq⟩,y,ow,rr⟩:=M.out;have KQ:=hid y;obtain⟨z7,l7,m7⟩:=ow b7 (cg.2 rfl);have Z7:=hid z7;have aI:V' 3=.slice (some ⟨gt,0,none⟩) q.tasks.length kt:=by
    rw[eq];have e1:=(af rr (k:=3) rfl).symm.trans (af an.r (k:=3) rfl);exact (aK e1).trans E3
   have a4:t<q.tasks.length:=by rw[eq];exact aT
   have P:=hid (show Below wc.heap.size wc wc.drew from aA wc 1);have TH:=hid ((j.below P).tasksThere aI (t*20) 20 (by omega));have aZ:=hid ((j.below P).tasksRow aI a4 g);have G6:=hid (show q.k t=6 by rw[eq];exact H6);have SR:=hid (sm.w.row G6 (g:=g) (by rw[eq];show Gq (p1.t t) g;rw[aF.out];exact GQ));have SQ:=hid sm;have CQ:=hid (show q.co c=t by rw[eq];exact ba);have KK:=hid (show ∀k,q.k k=p1.k k from fun k=>by rw[eq]);obtain⟨u,c3,U, -⟩:=O.out _ _ (M.below P);have S7:=hid (show (fun W=>W.cell? ⟨w.heap.size,0,none⟩=some (.pointer (some ⟨wb,0,none⟩))∧W.cell? ⟨wb,3,none⟩=some (.slice (some ⟨gt,0,none⟩) p1.tasks.length kt)∧W.cell? ⟨F.heap.size,0,none⟩=some (.int .i64 (t:Int))∧W.rangeAt b7 0 (cf 20 g)) wc.drew from⟨u,c3,U,d9 Y P⟩);have E7:=hid (d9 Y P);clear j sm y ow rr z7 l7 m7 u c3 U aI a4 eq M O Y;go_upto_region 7 with fail
   refine aX (R:=fun W=>W.cell? ⟨w.heap.size,0,none⟩=some (.pointer (some ⟨wb,0,none⟩))∧W.cell? ⟨wb,3,none⟩=some (.slice (some ⟨gt,0,none⟩) p1.tasks.length kt)∧W.cell? ⟨F.heap.size,0,none⟩=some (.int .i64 (t:Int))∧W.rangeAt b7 0 (cf 20 g)) [7] [0,1,2,3,4,5,6] 1 (by kernel_rfl) S7 (by kernel_rfl) (by kernel_rfl) (by kernel_rfl) (fun _=>?_);generalize wc.drew=x7 at*
   repeat (refine aJ rfl (by rfl) (fun _ _ _ _ h=>h) ?_;apply Exists.intro;refine⟨fun W h=>?_,?_⟩;(focus (obtain⟨h1,h2,h3,h4⟩:=h;first|exact run_ldT' rfl rfl (ax _ _) h4|(clear h4;go_simp;try rfl)));try simp only[jj])
   refine aE ?_;refine Rf.r1 7 rfl (fun K B=>?_);refine wnt (by rfl) ?_;refine wp_store_mid _ _ _ rfl _ _ (cf 20 g).toArray rfl rfl (by simpa [cf_len] using TH.out) (by rw[info20];simp[cf_len]) (all_oneCell_toArray (bK 20 g)) ?_;refine B _ _ trivial (bF (by kernel_rfl)) (fun _ _=>?_);clear B K TH S7
   try simp only[jj]
   refine aL (by kernel_rfl) ?_ _;obtain⟨b8,k8⟩:=aZ.out;have ab:=hid b8;have aV:=hid ((KQ.trans (aW P)).trans k8);have E8:=hid (ef E7 k8.k (fun e=>e Z7));have ah:=hid ((KX.trans (aW B2)).trans aV);have C8:=hid (ay.kt aV);have ad:=hid (SQ.trans SR);have aC:=hid (Z.w.w.m.tk.a.ok t H6 13 (by decide));change Hid (isOrB p1 (p1.t t 13) 7=true) at aC;rw[aF.out, ←GQ.s 13 (by decide)] at aC;clear b8 k8 aZ P E7 Z7 KQ SR SQ;generalize av:({q with tasks:=q.tasks.set t g}:PW)=q2 at ab ad;have aQ:=hid (show q2.k t=6 by rw[←av];exact G6);have az:=hid (show q2.co c=t by rw[←av];exact CQ);have bb:=hid (show ∀k,q2.k k=p1.k k from fun k=>by rw[←av];exact KK k);clear av G6 CQ KK;generalize World.setCells _ _ _ _=I at*;have u:=(C8.out (w.heap.size,.pointer (some ⟨wb,0,none⟩)) (by simp)).1;have L:=(C8.out (w.heap.size+1,.int .i64 (c:Int)) (by simp)).1;have U:=(C8.out (F.heap.size,.int .i64 (t:Int)) (by simp)).1;change I.cell? ⟨w.heap.size,0,none⟩=some (.pointer (some ⟨wb,0,none⟩)) at u;change I.cell? ⟨w.heap.size+1,0,none⟩=some (.int .i64 (c:Int)) at L;change I.cell? ⟨F.heap.size,0,none⟩=some (.int .i64 (t:Int)) at U;have y7:=af E8 (cf_at 20 g 13 (by decide));have ag:=hid (Z.trans ad);obtain⟨⟨bg,bh⟩,⟨n0,n1⟩,n2⟩:=HN.out;have ae:E=0∨E=1∨E=2∨E=3:=by omega
   rcases ae with rfl|rfl|rfl|rfl
   ·have G:=hid (show Bx p wb (tagC tag w.heap.size) W0 I from⟨tg,V',q2,ah.out,ab.out,ag.out⟩);go_upto_region 16 with fail
    clear u L U y7;obtain⟨tg,X,q,y,j,d⟩:=G.out;have u:=((Q.kt y) (w.heap.size,.pointer (some ⟨wb,0,none⟩)) (by simp)).1;change I.cell? ⟨w.heap.size,0,none⟩=_ at u;have al:I.cell? ⟨wb,10,none⟩=some (.int .i64 q.time):=by rw[af j.r (k:=10) rfl,j.o.time]
    have fr:I.frozen? ⟨wb,10,none⟩=false:=(j.t 10 (by decide)).2;have A:=hid (j.tick (q.time+1));have m0:0≤q.time:=d.w.w.tm;have m1:q.time+1≤1000000:=by rw[d.t];exact HT
    have N:=hid (show Sp p wb tag w (I.setCell ⟨wb,10,none⟩ (.int .i64 (q.time+1))) from⟨tg,_,_,((ac.trans (aW B0)).trans y).trans A.2,A.1,⟨d.w.w.tick,m1⟩,d.k,by show q.time+1=p.time+1;rw[d.t],d.c⟩);clear j y d A G;go_wp2_with fail
    exact aY (aN rfl _ _ _) rfl ⟨rfl,N.out⟩
   ·go_wp2_with fail
    refine (askFor_ok wb tg V' q2 c t n I ab ad.w az).mono ?_;rintro r C ⟨rfl,J⟩;have G:=hid (Bx.trans ah ag J);clear J u L U y7;go_upto_region 16 with fail
    obtain⟨tg,X,q,y,j,d⟩:=G.out;have u:=((Q.kt y) (w.heap.size,.pointer (some ⟨wb,0,none⟩)) (by simp)).1;change C.cell? ⟨w.heap.size,0,none⟩=_ at u;have al:C.cell? ⟨wb,10,none⟩=some (.int .i64 q.time):=by rw[af j.r (k:=10) rfl,j.o.time]
    have fr:C.frozen? ⟨wb,10,none⟩=false:=(j.t 10 (by decide)).2;have A:=hid (j.tick (q.time+1));have m0:0≤q.time:=d.w.w.tm;have m1:q.time+1≤1000000:=by rw[d.t];exact HT
    have N:=hid (show Sp p wb tag w (C.setCell ⟨wb,10,none⟩ (.int .i64 (q.time+1))) from⟨tg,_,_,((ac.trans (aW B0)).trans y).trans A.2,A.1,⟨d.w.w.tick,m1⟩,d.k,by show q.time+1=p.time+1;rw[d.t],d.c⟩);clear j y d A G;go_wp2_with fail
    exact aY (aN rfl _ _ _) rfl ⟨rfl,N.out⟩
   ·have bs:=n2 rfl;have aa:=aC.out;unfold isOrB at aa;rw[cd,bp] at aa;rcases aa with aa|aa
    ·rw[aa] at y7;go_wp2_with fail
     refine (stopTask_ok wb tg V' q2 t I ab ad.w aQ).mono ?_;rintro r C ⟨rfl,J⟩;have G:=hid (Bx.trans ah ag J);clear J u L U y7;go_upto_region 16 with fail
     obtain⟨tg,X,q,y,j,d⟩:=G.out;have u:=((Q.kt y) (w.heap.size,.pointer (some ⟨wb,0,none⟩)) (by simp)).1;change C.cell? ⟨w.heap.size,0,none⟩=_ at u;have al:C.cell? ⟨wb,10,none⟩=some (.int .i64 q.time):=by rw[af j.r (k:=10) rfl,j.o.time]
     have fr:C.frozen? ⟨wb,10,none⟩=false:=(j.t 10 (by decide)).2;have A:=hid (j.tick (q.time+1));have m0:0≤q.time:=d.w.w.tm;have m1:q.time+1≤1000000:=by rw[d.t];exact HT
     have N:=hid (show Sp p wb tag w (C.setCell ⟨wb,10,none⟩ (.int .i64 (q.time+1))) from⟨tg,_,_,((ac.trans (aW B0)).trans y).trans A.2,A.1,⟨d.w.w.tick,m1⟩,d.k,by show q.time+1=p.time+1;rw[d.t],d.c⟩);clear j y d A G;go_wp2_with fail
     exact aY (aN rfl _ _ _) rfl ⟨rfl,N.out⟩
    ·obtain⟨dd,d1,_,d3⟩:=isB_nat aa;rw[d1] at y7;have D7:=hid (show q2.k dd=7 by rw[bb.out];exact d3);clear aa d1 d3;by_cases hn:n<0
     ·obtain rfl:n= -1:=by omega
      go_wp2_with fail
      refine (sendWord_ok ad.w az D7 (b:=0) (v:=65535) (c:=true) (by decide) (by decide) I wb tg V' ab).mono ?_;rintro r C ⟨rfl,J⟩;have G:=hid (Bx.trans ah ag J);clear J u L U y7;go_upto_region 16 with fail
      obtain⟨tg,X,q,y,j,d⟩:=G.out;have u:=((Q.kt y) (w.heap.size,.pointer (some ⟨wb,0,none⟩)) (by simp)).1;change C.cell? ⟨w.heap.size,0,none⟩=_ at u;have al:C.cell? ⟨wb,10,none⟩=some (.int .i64 q.time):=by rw[af j.r (k:=10) rfl,j.o.time]
      have fr:C.frozen? ⟨wb,10,none⟩=false:=(j.t 10 (by decide)).2;have A:=hid (j.tick (q.time+1));have m0:0≤q.time:=d.w.w.tm;have m1:q.time+1≤1000000:=by rw[d.t];exact HT
      have N:=hid (show Sp p wb tag w (C.setCell ⟨wb,10,none⟩ (.int .i64 (q.time+1))) from⟨tg,_,_,((ac.trans (aW B0)).trans y).trans A.2,A.1,⟨d.w.w.tick,m1⟩,d.k,by show q.time+1=p.time+1;rw[d.t],d.c⟩);clear j y d A G;go_wp2_with fail
      exact aY (aN rfl _ _ _) rfl ⟨rfl,N.out⟩
     ·go_wp2_with fail
      refine (sendWord_ok ad.w az D7 (b:=0) (v:=n) (c:=true) (by decide) (by omega) I wb tg V' ab).mono ?_;rintro r C ⟨rfl,J⟩;have G:=hid (Bx.trans ah ag J);clear J u L U y7;go_upto_region 16 with fail
      obtain⟨tg,X,q,y,j,d⟩:=G.out;have u:=((Q.kt y) (w.heap.size,.pointer (some ⟨wb,0,none⟩)) (by simp)).1;change C.cell? ⟨w.heap.size,0,none⟩=_ at u;have al:C.cell? ⟨wb,10,none⟩=some (.int .i64 q.time):=by rw[af j.r (k:=10) rfl,j.o.time]
      have fr:C.frozen? ⟨wb,10,none⟩=false:=(j.t 10 (by decide)).2;have A:=hid (j.tick (q.time+1));have m0:0≤q.time:=d.w.w.tm;have m1:q.time+1≤1000000:=by rw[d.t];exact HT
      have N:=hid (show Sp p wb tag w (C.setCell ⟨wb,10,none⟩ (.int .i64 (q.time+1))) from⟨tg,_,_,((ac.trans (aW B0)).trans y).trans A.2,A.1,⟨d.w.w.tick,m1⟩,d.k,by show q.time+1=p.time+1;rw[d.t],d.c⟩);clear j y d A G;go_wp2_with fail
      exact aY (aN rfl _ _ _) rfl ⟨rfl,N.out⟩
   ·go_wp2_with fail
    refine (stopTask_ok wb tg V' q2 t I ab ad.w aQ).mono ?_;rintro r C ⟨rfl,J⟩;have G:=hid (Bx.trans ah ag J);clear J u L U y7;go_upto_region 16 with fail
    obtain⟨tg,X,q,y,j,d⟩:=G.out;have u:=((Q.kt y) (w.heap.size,.pointer (some ⟨wb,0,none⟩)) (by simp)).1;change C.cell? ⟨w.heap.size,0,none⟩=_ at u;have al:C.cell? ⟨wb,10,none⟩=some (.int .i64 q.time):=by rw[af j.r (k:=10) rfl,j.o.time]
    have fr:C.frozen? ⟨wb,10,none⟩=false:=(j.t 10 (by decide)).2;have A:=hid (j.tick (q.time+1));have m0:0≤q.time:=d.w.w.tm;have m1:q.time+1≤1000000:=by rw[d.t];exact HT
    have N:=hid (show Sp p wb tag w (C.setCell ⟨wb,10,none⟩ (.int .i64 (q.time+1))) from⟨tg,_,_,((ac.trans (aW B0)).trans y).trans A.2,A.1,⟨d.w.w.tick,m1⟩,d.k,by show q.time+1=p.time+1;rw[d.t],d.c⟩);clear j y d A G;go_wp2_with fail
    exact aY (aN rfl _ _ _) rfl ⟨rfl,N.out⟩
end Go.Proofs.YtaejnmmpddbbjaaGreatDoor.Wd
