/- Qbh -/
import Derived.BigGuard
import Derived.BigQuiet
import Derived.Test.YtaejnmmpddbbjaaGreatDoorQbd
namespace Go.Proofs.YtaejnmmpddbbjaaGreatDoor.Wd
open Go.RowKit Mem Bw Nums Mmu Hex
def knB:List ByteArray:=[⟨#[112,97,103,101]⟩,⟨#[116,97,98,108,101]⟩,⟨#[115,112,97,99,101]⟩,⟨#[110,111,100,101]⟩,⟨#[116,97,115,107]⟩,⟨#[100,111,111,114]⟩,⟨#[98,101,108,108]⟩]
def KnW (w:World):Prop:=∃kb ko cap,w.cell? ⟨1,0,none⟩=some (.slice (some ⟨kb,ko,none⟩) 7 cap)∧StrsAt w kb ko knB
theorem KnW.below {w w':World} (h:KnW w) (a:Below w.heap.size w w'):KnW w':=by
 obtain⟨d,e,cap,b,c⟩:=h;exact⟨d,e,cap,cupx a b,StrsAt.below' c a⟩
def BLine (p p':PW) (xs:List ByteArray):Prop:=∀(w:World) (wb:Nat) (tag:Nat→Nat) (V:Nat→Value) (b cap:Nat),BoxT w wb tag V p→KnW w→StrsAt w b 0 xs→xs.length≤cap→
 Calls Tryz.prog 73 #[.pointer (some ⟨wb,0,none⟩),.slice (some ⟨b,0,none⟩) xs.length cap] w fun r w'=>r=.returned (.int .i64 0)∧∃tag' V',BoxT w' wb tag' V' p'∧Kt tag tag' w w'
theorem strs_tail {w:World} {b:Nat} {x:ByteArray} {l:List ByteArray} (h:StrsAt w b 0 (x::l)):w.cell? ⟨b,0,none⟩=some (.string x)∧StrsAt w b 1 l:=
 ⟨h 0 (by simp),fun j a=>by have:=h (j+1) (by simp;omega);rw[show 0+(j+1)=1+j by omega] at this;exact this⟩
theorem tagC_ge {tag:Nat→Nat} {c k:Nat} (h:c≤k):tagC tag c k=0:=ae (by omega)
set_option maxRecDepth 100000
set_option maxHeartbeats 16000000
theorem bClay {p:PW} {c d e:ByteArray} {s b n:Nat} (H:p.Fits) (hl:∀l∈p.tlbs,l.length≤100) (G:∀t∈[c,d,e],numOk t=true) (E:[c,d,e].map Prs.decV=[(s:Int),(b:Int),(n:Int)])
  (J:p.slots.length=p.kinds.length*16) (I:s<p.slots.length) (o:opE p s=0) (F:1≤n) (B:b+n≤p.kinds.length) (hk:∀f (hf:f<p.kinds.length),b≤f→f<b+n→p.kinds[f]=0) (C:∀i (hi:i<p.slots.length),p.slots[i] 0≠1):
  BLine p {p with slots:=p.slots.set s (clk b n)} [⟨#[99,108,97,121]⟩,c,d,e]:=by
 intro w wb tag V Y cap m _ y D;obtain⟨bt,L⟩:=retagC m;have Z:=hid (fun x (h:w.heap.size≤x)=>tagC_ge (tag:=tag) h);have Q:=hid L;have N:=hid bt;clear m bt L;generalize tagC tag w.heap.size=tg at*;obtain⟨M,z⟩:=strs_tail y;have g:=hid (nums_any Y 1 (cap - 1) [c,d,e] w z G (by simp));rw[E] at g;have ab:¬cap=1:=by simp at D;omega
 have T:=hid (fun W (h:Below w.heap.size w W)=>cupx h M);have O:=hid (fun W a ca (h:Below w.heap.size w W) (U:IntsAt W a 0 [(s:Int),(b:Int),(n:Int)])=>clayLine_ref wb tg V p a ca s b n W (N.below h) H hl U J I o F B hk C);clear y z G E D J I o F B hk C H hl;go_enter Tryz.func73,Tryz.ntmps73
 go_wp2_with fail
 refine g.mono ?_;rintro r w1 ⟨u,rfl,K,j⟩;obtain⟨a,ca,rfl,aa,ac,A⟩:=own_pos K (by simp) (by simp);have k:=hid j;have P:=hid A;have X:=T.out _ j;clear K j A M g;go_wp2_with fail
 refine (O.out w1 a ca k P).mono ?_;rintro r w2 ⟨rfl,q,v⟩;have R:=hid q;have S:=hid v;clear q v X;go_wp2_with fail
 go_ret
 exact⟨rfl,tg,V,R.out,Q.trans ((aW k).trans S)⟩

theorem bEnterT {p:PW} {b c d e:ByteArray} {s g f wr:Nat} (G:p.Fits) (hl:∀l∈p.tlbs,l.length≤100) (F:∀t∈[b,c,d,e],numOk t=true) (E:[b,c,d,e].map Prs.decV=[(s:Int),(g:Int),(f:Int),(wr:Int)]) (n:fmE p s 4=0) (C:g≤255) (J:wr≤1) (B:f<p.kinds.length) (H:p.ram.length=p.kinds.length*16) (hk:p.kinds.getD f 0=3) (K:p.ram.getD (s*16+g/16) 0=0):
  BLine p {p with ram:=p.ram.set (s*16+g/16) (32768+(f:Int))} [⟨#[101,110,116,101,114]⟩,b,c,d,e]:=by
 intro w wb tag V xb cap m _ v A;obtain⟨bt,L⟩:=retagC m;have T:=hid (fun x (h:w.heap.size≤x)=>tagC_ge (tag:=tag) h);have Q:=hid L;have N:=hid bt;clear m bt L;generalize tagC tag w.heap.size=tg at*;obtain⟨M,y⟩:=strs_tail v;have i:=hid (nums_any xb 1 (cap - 1) [b,c,d,e] w y F (by simp));rw[E] at i;have ab:¬cap=1:=by simp at A;omega
 have X:=hid (fun W (h:Below w.heap.size w W)=>cupx h M);have O:=hid (fun W a ca (h:Below w.heap.size w W) (Y:IntsAt W a 0 [(s:Int),(g:Int),(f:Int),(wr:Int)]) (Z:tg a=0)=>enterTable_ref wb tg V p a 0 ca s g f wr W (N.below h) G hl Y Z n C J B H hk K);clear v y F E A n C J B H hk K G hl;go_enter Tryz.func73,Tryz.ntmps73
 go_wp2_with fail
 refine i.mono ?_;rintro r w1 ⟨u,rfl,I,j⟩;obtain⟨a,ca,rfl,aa,D,z⟩:=own_pos I (by simp) (by simp);have U:=hid (T.out a D);have k:=hid j;have P:=hid z;have x1:=X.out _ j;clear I j z M i D;go_wp2_with fail
 refine (O.out w1 a ca k P U).mono ?_;rintro r w2 ⟨rfl,o,q⟩;have R:=hid o;have S:=hid q;clear o q x1;go_wp2_with fail
 go_ret
 exact⟨rfl,tg,V,R.out,Q.trans ((aW k).trans S)⟩
theorem bEnterP {p:PW} {c d e i:ByteArray} {s g f wr a:Nat} (J:p.Fits) (hl:∀l∈p.tlbs,l.length≤100) (I:∀t∈[c,d,e,i],numOk t=true) (H:[c,d,e,i].map Prs.decV=[(s:Int),(g:Int),(f:Int),(wr:Int)]) (o:fmE p s 4=0) (F:g≤255) (O:wr≤1) (E:f<p.kinds.length) (M:p.ram.length=p.kinds.length*16) (hk:p.kinds.getD f 0=2) (P:p.ram.getD (s*16+g/16) 0=a) (C:0<a) (D:a≤65535) (K:a%1024*16+g%16<p.ram.length) (L:p.ram.getD (a%1024*16+g%16) 0=0):
  BLine p {p with ram:=p.ram.set (a%1024*16+g%16) (32768+(wr:Int)*16384+(f:Int))} [⟨#[101,110,116,101,114]⟩,c,d,e,i]:=by
 intro w wb tag V xb cap n _ y B;obtain⟨bt,Q⟩:=retagC n;have T0:=hid (fun x (h:w.heap.size≤x)=>tagC_ge (tag:=tag) h);have X:=hid Q;have S:=hid bt;clear n bt Q;generalize tagC tag w.heap.size=tg at*;obtain⟨R,z⟩:=strs_tail y;have j:=hid (nums_any xb 1 (cap - 1) [c,d,e,i] w z I (by simp));rw[H] at j;have ac:¬cap=1:=by simp at B;omega
 have X0:=hid (fun W (h:Below w.heap.size w W)=>cupx h R);have T:=hid (fun W b ca (h:Below w.heap.size w W) (ha:IntsAt W b 0 [(s:Int),(g:Int),(f:Int),(wr:Int)]) (aa:tg b=0)=>enterPage_ref wb tg V p b 0 ca s g f wr a W (S.below h) J hl ha aa o F O E M hk P C D K L);clear y z I H B o F O E M hk P C D K L J hl;go_enter Tryz.func73,Tryz.ntmps73
 go_wp2_with fail
 refine j.mono ?_;rintro r w1 ⟨u,rfl,N,k⟩;obtain⟨b,ca,rfl,ab,G,A⟩:=own_pos N (by simp) (by simp);have TG:=hid (T0.out b G);have m:=hid k;have U:=hid A;have x1:=X0.out _ k;clear N k A R j G;go_wp2_with fail
 refine (T.out w1 b ca m U TG).mono ?_;rintro r w2 ⟨rfl,q,v⟩;have Y:=hid q;have Z:=hid v;clear q v x1;go_wp2_with fail
 go_ret
 exact⟨rfl,tg,V,Y.out,X.trans ((aW m).trans Z)⟩
theorem bEquip {p:PW} {b c d e f g i:ByteArray} {t:Nat} {N:Nat→Int} (L:p.Fits) (hl:∀l∈p.tlbs,l.length≤100) (K:∀t∈[b,c,d,e,f,g,i],numOk t=true) (J:[b,c,d,e,f,g,i].map Prs.decV=[(t:Int),N 1,N 2,N 3,N 4,N 5,N 6]) (q:fmE p t 6=0) (O:t<p.tasks.length) (hk:∀k,1≤k→k<4→N k≠ -1→fmE p (N k) (eqK k)=0) (y:0≤N 4) (z:N 4<p.cores.length) (A:0≤N 5) (B:N 5≤3) (C:0≤N 6) (D:N 6≤3) (M:p.tasks[t] 9=0):
  BLine p (eqP p t N) [⟨#[101,113,117,105,112]⟩,b,c,d,e,f,g,i]:=by
 intro w wb tag V xb cap o _ E H;obtain⟨bt,Q⟩:=retagC o;have T0:=hid (fun x (h:w.heap.size≤x)=>tagC_ge (tag:=tag) h);have X:=hid Q;have S:=hid bt;clear o bt Q;generalize tagC tag w.heap.size=tg at*;obtain⟨R,F⟩:=strs_tail E;have j:=hid (nums_any xb 1 (cap - 1) [b,c,d,e,f,g,i] w F K (by simp));rw[J] at j;have ac:¬cap=1:=by simp at H;omega
 have X0:=hid (fun W (h:Below w.heap.size w W)=>cupx h R);have T:=hid (fun W a ca (h:Below w.heap.size w W) (ha:IntsAt W a 0 [(t:Int),N 1,N 2,N 3,N 4,N 5,N 6]) (aa:tg a=0)=>equipLine_ref wb tg V p a ca t N W (S.below h) L hl ha aa q O hk y z A B C D M);clear E F K J H q O hk y z A B C D M L hl;go_enter Tryz.func73,Tryz.ntmps73
 go_wp2_with fail
 refine j.mono ?_;rintro r w1 ⟨u,rfl,P,m⟩;obtain⟨a,ca,rfl,ab,I,G⟩:=own_pos P (by simp) (by simp);have TG:=hid (T0.out a I);have n:=hid m;have U:=hid G;have x1:=X0.out _ m;clear P m G R j I;go_wp2_with fail
 refine (T.out w1 a ca n U TG).mono ?_;rintro r w2 ⟨rfl,s,v⟩;have Y:=hid s;have Z:=hid v;clear s v x1;go_wp2_with fail
 go_ret
 exact⟨rfl,tg,V,Y.out,X.trans ((aW n).trans Z)⟩
theorem bCopy {p:PW} {f m n o:ByteArray} {i j r g a:Nat} {s:Nat→Int} (T:p.Fits) (hl:∀l∈p.tlbs,l.length≤100) (S:∀t∈[f,m,n,o],numOk t=true) (Q:[f,m,n,o].map Prs.decV=[(i:Int),(j:Int),(r:Int),(g:Int)]) (Y:p.slots.length=p.kinds.length*16) (J:boE p i j=0) (hi:i<p.slots.length) (P:j<p.slots.length) (X:p.slots[i]=s) (b:s 0≠1) (U:r≤7) (M:g≤65535) (O:g=0∨(0<g∧(s 0=7∨s 0=8)∧s 5=0)) (E:s 4=a) (H:a≤7):
  BLine p {p with slots:=p.slots.set j (kpS s (Bw.bw 6 a r:Nat) g i)} [⟨#[99,111,112,121]⟩,f,m,n,o]:=by
 intro w wb tag V xb cap C _ F L;obtain⟨bt,kr⟩:=retagC C;have T0:=hid (fun x (h:w.heap.size≤x)=>tagC_ge (tag:=tag) h);have KR:=hid kr;have BT:=hid bt;clear C bt kr;generalize tagC tag w.heap.size=tg at*;obtain⟨x0,G⟩:=strs_tail F;have v:=hid (nums_any xb 1 (cap - 1) [f,m,n,o] w G S (by simp));rw[Q] at v;have ad:¬cap=1:=by simp at L;omega
 have X0:=hid (fun W (h:Below w.heap.size w W)=>cupx h x0);have CL:=hid (fun W (h:Below w.heap.size w W)=>copyT_ref wb tg V p i j r g a s W (BT.below h) T hl Y J hi P X b U M O E H);clear F G S Q L Y J hi P X b U M O E H T hl;go_enter Tryz.func73,Tryz.ntmps73
 go_wp2_with fail
 refine v.mono ?_;rintro r w1 ⟨u,rfl,Z,z⟩;obtain⟨y,ca,rfl,ac,N,I⟩:=own_pos Z (by simp) (by simp);have TG:=hid (T0.out y N);have B1:=hid z;have HA:=hid I;have x1:=X0.out _ z;clear Z z I x0 v N;go_upto_region 38 with fail
 clear x1;have A:=hid (btr B1 (show Below w1.heap.size w1 w1.drew from aA w1 1));have q:=hid (HA.below (show Below w1.heap.size w1 w1.drew from aA w1 1));have ab:=hid (al _ _ (q.out 0 (by simp)));refine aX (R:=fun W=>IntsAt W y 0 [(i:Int),(j:Int),(r:Int),(g:Int)]) [14] [0,1,2,3,4,5,6,7,8,9,10,11,12] 2 (by kernel_rfl) q (by kernel_rfl) (by kernel_rfl) (by kernel_rfl) (fun _=>?_)
 repeat (refine aJ rfl (by rfl) (fun _ _ _ _ h=>h) ?_;apply Exists.intro;refine⟨fun W h=>?_,?_⟩;(focus (have b:=h 0 (by simp);have c:=h 1 (by simp);have d:=h 2 (by simp);have D:=h 3 (by simp);clear h;rw[aC] at b c d D;simp only[aV,bk] at b c d D;go_simp;try rfl));simp only[jj])
 refine aE ?_;generalize w1.drew=w2 at*;refine Rf.r1 13 rfl (fun K e=>?_);refine wnt (by rfl) ?_;go_simp
 refine (CL.out w2 A).mono ?_;rintro r w3 ⟨rfl,c,d⟩;have O1:=hid c;have B:=hid d;have aa:=hid (show IntsAt w3 y 0 [(i:Int),(j:Int),(r:Int),(g:Int)] from fun k hk=>B.cell (q.out k hk) TG);clear c d;go_wp2_with fail
 refine e _ _ trivial (fun _=>aa.out) (fun _ _=>?_);clear e K
 try simp only[jj]
 refine Rf.r1 14 rfl (fun K e=>?_);refine wnt (by rfl) ?_;go_simp
 refine e _ _ trivial (bF (by kernel_rfl)) (fun _ _=>?_);clear e K
 try simp only[jj]
 refine aL (by kernel_rfl) ?_ _;go_wp2_with fail
 go_ret
 exact⟨rfl,tg,V,O1.out,KR.trans ((aW A).trans B)⟩
set_option maxRecDepth 512
set_option maxHeartbeats 200000
theorem byte_ne {a b:ByteArray} (h:a≠b):(a.toList==b.toList)=false:=by
 rw[ByteArray.toList_eq,ByteArray.toList_eq];refine beq_eq_false_iff_ne.2 fun e=>h (bytes_ext e)
set_option maxRecDepth 100000
set_option maxHeartbeats 16000000
theorem bMake {p:PW} {A q s v:ByteArray} {kk:Nat} {n m t:Int} (hp:p.Fits) (hl:∀l∈p.tlbs,l.length≤100) (hs:Snd p) (ah:kk<knB.length) (hx:knB[kk]=A) (aa:∀j (o:j<knB.length),j<kk→knB[j]≠A) (ab:∀t∈[q,s,v],numOk t=true) (hm:[q,s,v].map Prs.decV=[n,m,t]) (Q:mkE p n (2+(kk:Int)) m t=0):
  BLine p (mkP p n (2+(kk:Int)) m t) [⟨#[109,97,107,101]⟩,A,q,s,v]:=by
 intro w wb tag V H cap N ai z X;obtain⟨bt,kr⟩:=retagC N;have T0:=hid (fun x (h:w.heap.size≤x)=>tagC_ge (tag:=tag) h);have KR:=hid kr;have BT:=hid bt;clear N bt kr;generalize tagC tag w.heap.size=tg at*;obtain⟨x0,ag⟩:=strs_tail z;have b:w.cell? ⟨H,1,none⟩=some (.string A):=z 1 (by simp);have S:StrsAt w H 2 [q,s,v]:=fun j o=>by have:=z (j+2) (by simp at o ⊢;omega);rw[show 0+(j+2)=2+j by omega] at this;exact this
 have D:=hid (fun W (h:Below w.heap.size w W)=>nums_any H 2 (cap - 2) [q,s,v] W (StrsAt.below' S h) ab (by simp));rw[hm] at D;have ar:¬cap=2:=by simp at X;omega
 obtain⟨kb,ko,au,a,ad⟩:=ai;have J:=hid (fun W (h:Below w.heap.size w W)=>(⟨cupx h b,cupx h a⟩:_∧_));have KS:=hid (fun W (h:Below w.heap.size w W) j (o:j<knB.length)=>show W.cell? ⟨kb,ko+j,none⟩=some (.string knB[j]) from cupx h (ad j o));have L:=hid (fun W (h:Below w.heap.size w W)=>makeThings_any n (2+(kk:Int)) m t p hp hl hs W wb tg V (BT.below h));rw[Q] at L;have k7:(kk:Int)<7:=by have:knB.length=7:=rfl;omega
 have am:((kk:Int)==7)=false:=by simp;omega
 have af:=hid aa;have HX:=hid hx;have ao:=hid ah;clear z ag S ab hm X hp hl hs Q ad aa hx b a;go_enter Tryz.func73,Tryz.ntmps73
 go_wp2_with fail
 clear x0
 go_loopw [5] (fun i wr=>∃(j:Nat),j≤kk∧i=.int .i64 (j:Int)∧Hid (Below w.heap.size w wr)) (fun i _=>kk - (intOf i).toNat)
 case atStart=>exact⟨0,by omega,rfl,hid (aj _ _)⟩
 case round=>
  obtain⟨j,o,rfl,d⟩:=hrel;obtain⟨b,a⟩:=J.out _ d;have ac:j<knB.length:=by omega
  have j7:(j:Int)<7:=by omega
  have B:=KS.out _ d j ac;by_cases Z:j<kk
  ·have hn:=byte_ne (af.out j ac Z);generalize knB[j]=y at B hn;clear am;go_upto_region 5 with fail
   refine bh (by kernel_rfl) (by kernel_rfl) ?_
   repeat (first|go_big_quiet_skip|(go_big_quiet_want;go_big_quiet_op;first|go_big_quiet_on|go_big_quiet_call (fail)))
   refine cG ?_;intro _ F;obtain⟨nq,G⟩:=F;subst G;have c:=hid (bc d nq);clear b a B;generalize wr.drewN nq=w3 at*;go_wp2_with fail
   exact⟨⟨j+1,by omega,by go_num,c⟩,by simp[intOf];omega⟩
  obtain rfl:j=kk:=by omega
  rw[HX.out] at B;go_upto_region 5 with fail
  refine bh (by kernel_rfl) (by kernel_rfl) ?_
  repeat (first|go_big_quiet_skip|(go_big_quiet_want;go_big_quiet_op;first|go_big_quiet_on|go_big_quiet_call (fail)))
  refine cG ?_;intro _ F;obtain⟨nq,G⟩:=F;subst G;have c:=hid (bc d nq);clear b a B Z;generalize wr.drewN nq=w3 at*;obtain⟨b,a⟩:=J.out _ c;go_wp2_with fail
  refine (D.out _ c).mono ?_;rintro r w1 ⟨u,rfl,hu,U⟩;obtain⟨E,ca,rfl,aq,Y,T⟩:=own_pos hu (by simp) (by simp);have TG:=hid (T0.out E (aD c.size Y));have B1:=hid (btr c U);have HA:=hid T;clear hu U T D Y b a d;go_upto_region 12 with fail
  have I:=hid (btr B1 (show Below w1.heap.size w1 w1.drew from aA w1 1));have C:=hid (HA.below (show Below w1.heap.size w1 w1.drew from aA w1 1));have ap:=hid (al _ _ (C.out 0 (by simp)));refine aX (R:=fun W=>IntsAt W E 0 [n,m,t]) [13] [0,1,2,3,4,5,6,7,8,9,10,11] 2 (by kernel_rfl) C (by kernel_rfl) (by kernel_rfl) (by kernel_rfl) (fun _=>?_)
  repeat (refine aJ rfl (by rfl) (fun _ _ _ _ h=>h) ?_;apply Exists.intro;refine⟨fun W h=>?_,?_⟩;(focus (have O:=h 0 (by simp);have e:=h 1 (by simp);have f:=h 2 (by simp);clear h;rw[aC] at O e f;simp only[aV,bk] at O e f;go_simp;try rfl));simp only[jj])
  refine aE ?_;generalize w1.drew=w2 at*;refine Rf.r1 12 rfl (fun K g=>?_);refine wnt (by rfl) ?_;go_simp
  rw[show IntKind.i64.wrap (2+(j:Int))=2+(j:Int) from cw _ (by omega) (by omega)];refine (L.out w2 I).mono ?_;rintro r w4 ⟨rfl,an,e,f⟩;obtain⟨V2,P⟩:=f trivial;have O1:=hid P;have M:=hid e;have ae:=hid (show IntsAt w4 E 0 [n,m,t] from fun k hk=>M.cell (C.out k hk) TG);clear e f P;go_wp2_with fail
  refine g _ _ trivial (fun _=>ae.out) (fun _ _=>?_);clear g K
  try simp only[jj]
  refine Rf.r1 13 rfl (fun K g=>?_);refine wnt (by rfl) ?_;go_simp
  refine g _ _ trivial (bF (by kernel_rfl)) (fun _ _=>?_);clear g K
  try simp only[jj]
  refine aL (by kernel_rfl) ?_ _;go_wp2_with fail
  go_ret
  exact⟨rfl,an,V2,O1.out,KR.trans ((aW I).trans M)⟩
set_option maxRecDepth 512
set_option maxHeartbeats 200000
structure Own (w0 W:World) (wb:Nat) (tag:Nat→Nat) (V:Nat→Value) (p:PW):Prop where
 b:BoxT W wb tag V p
 t:∀k,k<w0.heap.size→tag k=0
 e:Below w0.heap.size w0 W
theorem Own.next {w0 W a:World} {wb:Nat} {tag:Nat→Nat} {V:Nat→Value} {p:PW} (h:Own w0 W wb tag V p) (c:Below W.heap.size W a):Own w0 a wb tag V p:=⟨h.b.below c,h.t,btr h.e c⟩
theorem Own.to {w0 W b:World} {wb:Nat} {tag tag':Nat→Nat} {V c:Nat→Value} {p p':PW} (h:Own w0 W wb tag V p) (d:BoxT b wb tag' c p') (hk:Kt tag tag' W b):Own w0 b wb tag' c p':=
 ⟨d,fun k a=>hk.t k (aB a h.e.size) (h.t k a),hk.k.below h.e h.e.size (fun k a e=>e (h.t k a))⟩
structure Reads (ls:List ByteArray) (P:Nat→PW) (f c:Nat) (zs:List Int):Prop where
 n0:0<ls.length
 nn:ls.length≤200
 sz:∀t∈ls,t.size≤1000
 one:∃l,cutB 32 (ls.getD 0 ByteArray.empty)=⟨#[119,111,114,108,100]⟩::l∧(∀t∈l,numOk t=true)∧l.length≤100∧l.map Prs.decV=(f:Int)::(c:Int)::zs∧P 1=wlP f c zs
 num:1≤f∧f≤24∧1≤c∧c≤4∧1≤zs.length∧zs.length≤8∧∀z∈zs,0≤z∧z≤3
 all:∀i,1≤i→i<ls.length→∃x l,cutB 32 (ls.getD i ByteArray.empty)=x::l∧x≠⟨#[119,111,114,108,100]⟩∧x≠⟨#[99,111,100,101]⟩∧BLine (P i) (P (i+1)) (x::l)
set_option maxRecDepth 100000
set_option maxHeartbeats 16000000
theorem readWorld_ref (s:ByteArray) (P:Nat→PW) (f c:Nat) (zs:List Int) (w:World) (hs:s.size≤4000) (hr:Reads (Prs.linesB s) P f c zs) (am:KnW w):
  Calls Tryz.prog 29 #[.string s] w fun r w'=>∃X tag,r=.returned (.tuple #[.agg (arr11 X),.agg #[.int .i64 0,.int .i64 (-1)]])∧WorldT w' tag X (P (Prs.linesB s).length)∧(∀k,k<w.heap.size→tag k=0)∧Below w.heap.size w w':=by
 have B0:=hid (bal (bal (aj w.heap.size w) (.cells #[.slice none 0 0,.slice none 0 0,.slice none 0 0,.slice none 0 0,.slice none 0 0,.slice none 0 0,.slice none 0 0,.slice none 0 0,.slice none 0 0,.slice none 0 0,.int .i64 0] 28)) (.cells #[.int .i64 0,.int .i64 0] 71));have G:=hid (cU (aM w #[.slice none 0 0,.slice none 0 0,.slice none 0 0,.slice none 0 0,.slice none 0 0,.slice none 0 0,.slice none 0 0,.slice none 0 0,.slice none 0 0,.slice none 0 0,.int .i64 0] 28 w.heap.size 11 rfl (by decide)) (bal (aj _ _) (.cells #[.int .i64 0,.int .i64 0] 71)));have N:=hid (aM (w.alloc (.cells #[.slice none 0 0,.slice none 0 0,.slice none 0 0,.slice none 0 0,.slice none 0 0,.slice none 0 0,.slice none 0 0,.slice none 0 0,.slice none 0 0,.slice none 0 0,.int .i64 0] 28)) #[.int .i64 0,.int .i64 0] 71 (w.heap.size+1) 2 (by simp) (by decide));have SZ:=hid (show w.heap.size+2=((w.alloc (.cells #[.slice none 0 0,.slice none 0 0,.slice none 0 0,.slice none 0 0,.slice none 0 0,.slice none 0 0,.slice none 0 0,.slice none 0 0,.slice none 0 0,.slice none 0 0,.int .i64 0] 28)).alloc (.cells #[.int .i64 0,.int .i64 0] 71)).heap.size by simp);have HL:=hid (fun W:World=>Prs.refLines_any s W (by omega));obtain⟨ls,ah⟩:∃ls,Prs.linesB s=ls:=⟨_,rfl⟩
 rw[ah] at HL hr ⊢;clear ah;have u:=hid hr;have HK:=hid am;have aP:(s.size:Int)≤4000:=by omega
 clear hr am hs;go_enter Tryz.func29,Tryz.ntmps29
 go_wp2_with fail
 refine (HL.out _).mono ?_;rintro r a ⟨lb,aQ,rfl,ap,H⟩;generalize World.alloc (World.alloc w _) _=W0 at*;have R:=hid (btr B0 H);have ay:=hid (cU G H);have az:=hid (cU N H);have L3:=hid (show w.heap.size+2≤a.heap.size by have:=SZ.out;have:=H.size;omega);have ST:=hid ap;clear ap H G N B0 SZ HL;have T5:=hid (aM a #[.slice none 0 0,.slice none 0 0,.slice none 0 0,.slice none 0 0,.slice none 0 0,.slice none 0 0,.slice none 0 0,.slice none 0 0,.slice none 0 0,.slice none 0 0,.int .i64 0] 28 a.heap.size 11 rfl (by decide));go_upto_region 7 with (first|((with_reducible refine gst 28 ?_);refine wpList_store_mid rfl 28 _ _ rfl a.heap.size 0 #[.slice none 0 0,.slice none 0 0,.slice none 0 0,.slice none 0 0,.slice none 0 0,.slice none 0 0,.slice none 0 0,.slice none 0 0,.slice none 0 0,.slice none 0 0,.int .i64 0] rfl rfl T5 infoW (by simp[Value.oneCell']) ?_))
 have n:=hid (World.there_setCells T5 a.heap.size 0 [.slice none 0 0,.slice none 0 0,.slice none 0 0,.slice none 0 0,.slice none 0 0,.slice none 0 0,.slice none 0 0,.slice none 0 0,.slice none 0 0,.slice none 0 0,.int .i64 0]);have KX:=hid (show Kp (fun k=>k=a.heap.size) (a.alloc (.cells #[.slice none 0 0,.slice none 0 0,.slice none 0 0,.slice none 0 0,.slice none 0 0,.slice none 0 0,.slice none 0 0,.slice none 0 0,.slice none 0 0,.slice none 0 0,.int .i64 0] 28)) ((a.alloc (.cells #[.slice none 0 0,.slice none 0 0,.slice none 0 0,.slice none 0 0,.slice none 0 0,.slice none 0 0,.slice none 0 0,.slice none 0 0,.slice none 0 0,.slice none 0 0,.int .i64 0] 28)).setCells a.heap.size 0 [.slice none 0 0,.slice none 0 0,.slice none 0 0,.slice none 0 0,.slice none 0 0,.slice none 0 0,.slice none 0 0,.slice none 0 0,.slice none 0 0,.slice none 0 0,.int .i64 0]) from aG (T:=fun k=>k=a.heap.size) (.inl rfl) _ _ _ (aR _ _));have U:=hid (KX.below (bal (aj a.heap.size a) (.cells #[.slice none 0 0,.slice none 0 0,.slice none 0 0,.slice none 0 0,.slice none 0 0,.slice none 0 0,.slice none 0 0,.slice none 0 0,.slice none 0 0,.slice none 0 0,.int .i64 0] 28)) (by simp) (fun k hk e=>by omega));clear KX T5;generalize World.setCells _ _ _ _=W5 at n U ⊢;generalize ar:a.heap.size=wb at n ⊢;have ab:=hid ar;clear ar;have NN:=hid u.nn;have aT:(ls.length:Int)≤200:=by have:=u.nn;omega
 have LS:=hid (fun W (h:Below a.heap.size a W) k (hk:k<ls.length)=>show W.cell? ⟨lb,k,none⟩=some (.string ls[k]) from by have:=ST.out k hk;rw[aC] at this;exact cupx h this);have CU:=hid (fun W k (hk:k<ls.length)=>cut_cap ls[k] 32 W (by have:=u.sz ls[k] (aw hk);omega));have KN:=hid (fun W (h:Below a.heap.size a W)=>HK.below (btr R h))
 go_loopw [6,7] (fun g i wr=>∃k:Nat,k≤ls.length∧i=.int .i64 (k:Int)∧((k=0∧g=.bool false∧Hid (wr.there wb 0 11∧Below a.heap.size a wr))∨(1≤k∧g=.bool true∧∃tag V,Hid (Own a wr wb tag V (P k))))) (fun _ i _=>ls.length - (intOf i).toNat)
 case atStart=>exact⟨0,by omega,rfl,.inl ⟨rfl,rfl,hid ⟨n.out,U.out⟩⟩⟩
 case round=>
  clear n U;obtain⟨k,hk,rfl,h2⟩:=hrel;rcases h2 with ⟨rfl,rfl,M⟩|⟨aF,rfl,tag,V,q⟩
  ·have n0:=u.n0;have aS:(0:Int)<(ls.length:Int):=by omega
   obtain⟨l,e1,ao,an,hm,eP⟩:=u.one;obtain⟨f0,f1,c0,c1,z0,z1,hz⟩:=u.num;have m:=hid (CU.out wr 0 n0);have z:=LS.out _ M.2 0 n0;rw[show ls[0]=ls.getD 0 ByteArray.empty by rw[aa,ac n0];rfl] at m z;rw[e1] at m;have av:=hid (show 3≤l.length by have:=cX List.length hm;simp at this;omega);have WL:=hid (fun A cap W (h:StrsAt W A 1 l)=>worldLine_ref A 1 cap f c zs l W h ao an hm f0 f1 c0 c1 z0 z1 hz);have EP:=hid eP;clear e1 ao hm eP f0 f1 c0 c1 z0 z1 hz n0;generalize ls.getD 0 ByteArray.empty=line at m z;have aN:(l.length:Int)≤100:=by omega
   clear an;go_wp2_with fail
   refine m.mono ?_;rintro r j ⟨A,L,rfl,E,C,I⟩;obtain⟨x0,au⟩:=strs_tail E;have ag:=hid au;have aD:¬L=1:=by have:=av.out;simp at I;omega
   have aH:(1:Int)≤(l.length:Int)+1:=by omega
   have n:=hid (cU M.1 C);have Y:=hid (btr M.2 C);clear E au I C z m M;go_wp2_with fail
   refine (WL.out A (L - 1) j ag).mono ?_;rintro r w7 ⟨X,tag,rfl,hw,af,D⟩;have T7:=hid (cU n D);have B:=hid (btr Y D);have ax:=hid (show wb<j.heap.size from al _ _ (Option.isSome_iff_exists.1 (n.out 0 (by omega)).1).choose_spec);have OW:=hid (show Own a (w7.setCells wb 0 [X 0,X 1,X 2,X 3,X 4,X 5,X 6,X 7,X 8,X 9,X 10]) wb (fun k=>if k=wb then 1 else tag k) X (P 1) from⟨by rw[EP.out];exact hw.box (af wb ax) T7,fun k hk=>by rw[ae (by have:=ab.out;omega)];exact af k (aB hk Y.size),(aG (T:=fun k=>k=wb) (.inl rfl) _ _ _ (aR _ _)).below B B.size (fun k hk e=>by have:=ab.out;omega)⟩);have y:=hid hw.ones;clear hw af D x0 aD aH WL ag n Y;go_wp2_with (first|((with_reducible refine gst 28 ?_);refine wpList_store_mid rfl 28 _ _ rfl wb 0 (arr11 X) rfl rfl T7 infoW y ?_))
   exact⟨⟨1,by omega,by go_num,.inr ⟨by omega,rfl,_,X,OW⟩⟩,by simp[intOf];omega⟩
  by_cases J:k<ls.length
  ·have aO:(k:Int)<(ls.length:Int):=by omega
   obtain⟨x,l,e1,nw,nc,bl⟩:=u.all k aF J;have m:=hid (CU.out wr k J);have z:=LS.out _ q.e k J;rw[show ls[k]=ls.getD k ByteArray.empty by rw[aa,ac J];rfl] at m z;rw[e1] at m;have BL:=hid bl;have aJ:(x.toList==[119,111,114,108,100])=false:=by have:=byte_ne nw;rw[ByteArray.toList_eq (bs:=⟨#[119,111,114,108,100]⟩)] at this;exact this
   have aI:(x.toList==[99,111,100,101])=false:=by have:=byte_ne nc;rw[ByteArray.toList_eq (bs:=⟨#[99,111,100,101]⟩)] at this;exact this
   clear e1 nw nc bl;generalize ls.getD k ByteArray.empty=line at m z;go_wp2_with fail
   refine m.mono ?_;rintro r j ⟨A,L,rfl,E,C,I⟩;have x0:=(strs_tail E).1;have d:=hid (q.next C);have BC:=hid (show Calls Tryz.prog 73 #[.pointer (some ⟨wb,0,none⟩),.slice (some ⟨A,0,none⟩) (l.length+1) L] j fun r w'=>r=.returned (.int .i64 0)∧∃tag' V',BoxT w' wb tag' V' (P (k+1))∧Kt tag tag' j w' from BL j wb tag V A L d.b (KN.out _ d.e) E I);clear E I C z m q;go_wp2_with fail
   refine BC.mono ?_;rintro r w7 ⟨rfl,aK,V2,D,ai⟩;have y:=hid (d.to D ai);clear D ai BC d x0 aJ aI;go_wp2_with fail
   exact⟨⟨k+1,by omega,by go_num,.inr ⟨by omega,rfl,aK,V2,y⟩⟩,by simp[intOf];omega⟩
  obtain rfl:k=ls.length:=by omega
  have aE:¬((ls.length:Int)<(ls.length:Int)):=by omega
  clear J;go_upto_region 26 with fail
  clear aE;have L0:=hid (show w.heap.size<a.heap.size by have:=L3.out;omega);have L1:=hid (show w.heap.size+1<a.heap.size by have:=L3.out;omega);have aL:=hid (show w.heap.size≠wb∧w.heap.size+1≠wb by have:=L3.out;have:=ab.out;omega);have Z:Hid (Below wr.heap.size wr wr.drew):=hid (aA wr 1);have OS:=hid q.b.o.ones;have R5:=hid q.b.r;refine wp_region_held_drew (S:=fun W=>W.rangeAt wb 0 (arr11 V).toList) (by kernel_rfl) (d9 R5 Z) (fun hH=>?_);refine tg 0 (.agg (arr11 V)) rfl (yieldsIf_load_mid (by rfl) _ _ rfl _ _ rfl (arr11 V).toList _ (fun _ h=>h) Tryz.underlying28 rfl infoW) hH ?_;simp only[jj];refine wpAnyH_ready (rs:=[1]) (by kernel_rfl) (by simp) (AllReadyH.cons rfl (fun K p=>?_) AllReadyH.nil);refine wnt (by rfl) ?_;simp only[cK,bk,aV];go_simp
  refine (fine_anyx _).mono ?_;rintro e j ⟨rfl,hb⟩;have d:=hid (q.next (btr Z hb));have G:=hid (cU ay d.e);have N:=hid (cU az d.e);clear hb hH q R5 Z;refine p _ _ d.b.r (fun _=>?_);clear p K;have O:Kp (fun k=>k=w.heap.size) j (j.setCells w.heap.size 0 (arr11 V).toList):=aG (T:=fun k=>k=w.heap.size) (.inl rfl) _ _ _ (aR _ _);have y:=hid (d.b.kp O (fun k _ e=>by rw[e];exact d.t _ L0) (fun _ _=>rfl));have TZ:=hid d.t;have B:=hid (show Below w.heap.size w (j.setCells w.heap.size 0 (arr11 V).toList) from O.below (btr R d.e) (btr R d.e).size (fun k hk e=>by omega));have ad:=hid (dN N O (by omega));have Q7:=hid (World.rangeAt_setCells_same j w.heap.size 0 (arr11 V).toList G);clear O;refine wpAnyH_ready (rs:=[2]) (by kernel_rfl) (by simp) (AllReadyH.cons rfl (fun K p=>?_) AllReadyH.nil);refine wnt (by rfl) ?_;simp only[cK,bk,aV];refine wp_store_mid 28 _ _ rfl w.heap.size 0 (arr11 V) rfl rfl G infoW OS ?_;generalize j.setCells w.heap.size 0 (arr11 V).toList=F at y B ad Q7 ⊢;refine p _ _ y.r (fun _=>?_);clear p K d;have Q:Kp (fun k=>k=w.heap.size+1) F (F.setCells (w.heap.size+1) 0 [.int .i64 0,.int .i64 (-1)]):=aG (T:=fun k=>k=w.heap.size+1) (.inl rfl) _ _ _ (aR _ _);have O8:=hid (y.kp Q (fun k _ e=>by rw[e];exact TZ _ L1) (fun _ _=>rfl));have B8:=hid (show Below w.heap.size w (F.setCells (w.heap.size+1) 0 [.int .i64 0,.int .i64 (-1)]) from Q.below B B.size (fun k hk e=>by omega));have Q8:=hid (ef Q7 Q (by omega));have P8:=hid (World.rangeAt_setCells_same F (w.heap.size+1) 0 [.int .i64 0,.int .i64 (-1)] ad.out);clear Q;refine wpAnyH_ready (rs:=[3]) (by kernel_rfl) (by simp) (AllReadyH.cons rfl (fun K p=>?_) AllReadyH.nil);refine wnt (by rfl) ?_;simp only[cK,bk,aV];refine wp_stBad rfl (w.heap.size+1) rfl rfl ad ?_;generalize F.setCells (w.heap.size+1) 0 [.int .i64 0,.int .i64 (-1)]=W8 at O8 B8 Q8 P8 ⊢;refine p _ _ O8.r (fun _=>?_);clear p K;refine dC (by kernel_rfl) ?_ _;go_wp2_with fail
  exact aq (v:=.tuple #[.agg (arr11 V),.agg #[.int .i64 0,.int .i64 (-1)]]) (results_ccx rfl rfl (run_loadVar_mid _ w.heap.size 0 28 (arr11 V).toList _ Q8 Tryz.underlying28 rfl infoW) rfl (run_loadVar_mid _ (w.heap.size+1) 0 71 [.int .i64 0,.int .i64 (-1)] _ P8 Tryz.underlying71 rfl infoBadx)) rfl ⟨V,rfl,tag,O8.o,fun k hk=>TZ.out k (by have:=L0.out;omega),B8.out⟩
end Go.Proofs.YtaejnmmpddbbjaaGreatDoor.Wd
