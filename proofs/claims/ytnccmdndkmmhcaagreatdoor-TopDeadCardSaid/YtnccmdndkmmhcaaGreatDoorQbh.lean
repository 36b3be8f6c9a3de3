/- Qbh -/
import Derived.BigGuard
import Derived.BigQuiet
import Derived.Test.YtnccmdndkmmhcaaGreatDoorQbd
set_option maxRecDepth 100000
set_option maxHeartbeats 16000000
namespace Go.Proofs.YtnccmdndkmmhcaaGreatDoor
namespace Wd
open Go.RowKit Mem Bw Nums Mmu Hex
def knB:List ByteArray:=[⟨#[112,97,103,101]⟩,⟨#[116,97,98,108,101]⟩,⟨#[115,112,97,99,101]⟩,⟨#[110,111,100,101]⟩,⟨#[116,97,115,107]⟩,⟨#[100,111,111,114]⟩,⟨#[98,101,108,108]⟩]
def KnW (w:World):Prop:=∃kb ko cap,w.cell? ⟨1,0,none⟩=some (.slice (some ⟨kb,ko,none⟩) 7 cap)∧fU w kb ko knB
theorem KnW.below {w w':World} (h:KnW w) (a:Below w.heap.size w w'):KnW w':=by
 obtain⟨d,e,cap,b,c⟩:=h;exact⟨d,e,cap,gX a b,fU.Jj c a⟩
def kg (p p':PW) (xs:List ByteArray):Prop:=∀(w:World) (wb:Nat) (tag:Nat->Nat) (V:Nat->Value) (b cap:Nat),cb w wb tag V p->KnW w->fU w b 0 xs->xs.length<=cap->
 Calls Tryz.prog 172 #[.pointer (some ⟨wb,0,none⟩),.slice (some ⟨b,0,none⟩) xs.length cap] w fun r w'=>r=.returned (.int .i64 0)∧∃tag' V',cb w' wb tag' V' p'∧Kt tag tag' w w'
theorem gN {w:World} {b:Nat} {x:ByteArray} {l:List ByteArray} (h:fU w b 0 (x::l)):w.cell? ⟨b,0,none⟩=some (.string x)∧fU w b 1 l:=
 ⟨h 0 oS,fun j a=>by have:=h (j+1) (by simp;omega);rw[show 0+(j+1)=1+j by omega] at this;exact this⟩
theorem fH {tag:Nat->Nat} {c k:Nat} (h:c<=k):jb tag c k=0:=ae oA
theorem Gi {p:PW} {c d e:ByteArray} {s b n:Nat} (O:p.Fits) (hl:∀l∈p.ID,l.length<=100) (N:∀t∈[c,d,e],gh t=true) (L:[c,d,e].map Prs.hQ=[(s:Int),(b:Int),(n:Int)])
  (Q:p.IA.length=p.kinds.length*16) (P:s<p.IA.length) (h0:opE p s=0) (M:1<=n) (I:b+n<=p.kinds.length) (hk:∀f (hf:f<p.kinds.length),b<=f->f<b+n->p.kinds[f]=0) (J:∀i (hi:i<p.IA.length),p.IA[i] 0≠1):
  kg p {p with IA:=p.IA.set s (clk b n)} [⟨#[99,108,97,121]⟩,c,d,e]:=by
 intro w wb tag V U cap B _ E K;obtain⟨bt,S⟩:=iJ B;have X:=hid (fun x (h:w.heap.size<=x)=>fH (tag:=tag) h);have v:=hid S;have m:=hid bt;generalize jb tag w.heap.size=tg at*;obtain⟨T,F⟩:=gN E;have j:=hid (iT U 1 (cap - 1) [c,d,e] w F N oS);rw[L] at j;have Z:¬cap=1:=by simp at K;omega
 have A:=hid (fun W (h:Below w.heap.size w W)=>gX h T);have o:=hid (fun W a ca (h:Below w.heap.size w W) (G:fY W a 0 [(s:Int),(b:Int),(n:Int)])=>pY wb tg V p a ca s b n W (m.below h) O hl G Q P h0 M I hk J);go_enter Tryz.func172,Tryz.ntmps172
 go_wp2_with fail
 refine j.mono ?_;rintro r w1 ⟨u,rfl,R,k⟩;obtain⟨a,ca,rfl,Y,aa,H⟩:=jX R oS oS;have g:=hid k;have q:=hid H;have x1:=A.out _ k;go_wp2_with fail
 refine (o.out w1 a ca g q).mono ?_;rintro r w2 ⟨rfl,C,D⟩;have y:=hid C;have z:=hid D;go_wp2_with fail
 go_ret
 exact⟨rfl,tg,V,y.out,v.trans ((bj g).trans z)⟩

theorem BF {p:PW} {b c d e:ByteArray} {s g f wr:Nat} (P:p.Fits) (hl:∀l∈p.ID,l.length<=100) (O:∀t∈[b,c,d,e],gh t=true) (N:[b,c,d,e].map Prs.hQ=[(s:Int),(g:Int),(f:Int),(wr:Int)]) (h0:fmE p s 4=0) (L:g<=255) (T:wr<=1) (K:f<p.kinds.length) (Q:p.IE.length=p.kinds.length*16) (hk:p.kinds.getD f 0=3) (U:p.IE.getD (s*16+g/16) 0=0):
  kg p {p with IE:=p.IE.set (s*16+g/16) (32768+(f:Int))} [⟨#[101,110,116,101,114]⟩,b,c,d,e]:=by
 intro w wb tag V Z cap C _ F J;obtain⟨bt,X⟩:=iJ C;have z:=hid (fun x (h:w.heap.size<=x)=>fH (tag:=tag) h);have q:=hid X;have m:=hid bt;generalize jb tag w.heap.size=tg at*;obtain⟨Y,G⟩:=gN F;have j:=hid (iT Z 1 (cap - 1) [b,c,d,e] w G O oS);rw[N] at j;have ab:¬cap=1:=by simp at J;omega
 have B:=hid (fun W (h:Below w.heap.size w W)=>gX h Y);have n:=hid (fun W a ca (h:Below w.heap.size w W) (H:fY W a 0 [(s:Int),(g:Int),(f:Int),(wr:Int)]) (R:tg a=0)=>ny wb tg V p a 0 ca s g f wr W (m.below h) P hl H R h0 L T K Q hk U);go_enter Tryz.func172,Tryz.ntmps172
 go_wp2_with fail
 refine j.mono ?_;rintro r w1 ⟨u,rfl,S,k⟩;obtain⟨a,ca,rfl,aa,M,I⟩:=jX S oS oS;have A:=hid (z.out a M);have i:=hid k;have o:=hid I;have x1:=B.out _ k;go_wp2_with fail
 refine (n.out w1 a ca i o A).mono ?_;rintro r w2 ⟨rfl,D,E⟩;have v:=hid D;have y:=hid E;go_wp2_with fail
 go_ret
 exact⟨rfl,tg,V,v.out,q.trans ((bj i).trans y)⟩
theorem Bz {p:PW} {c d e i:ByteArray} {s g f wr a:Nat} (S:p.Fits) (hl:∀l∈p.ID,l.length<=100) (R:∀t∈[c,d,e,i],gh t=true) (Q:[c,d,e,i].map Prs.hQ=[(s:Int),(g:Int),(f:Int),(wr:Int)]) (h0:fmE p s 4=0) (O:g<=255) (hw:wr<=1) (N:f<p.kinds.length) (X:p.IE.length=p.kinds.length*16) (hk:p.kinds.getD f 0=2) (hz:p.IE.getD (s*16+g/16) 0=a) (L:0<a) (M:a<=65535) (T:a%1024*16+g%16<p.IE.length) (U:p.IE.getD (a%1024*16+g%16) 0=0):
  kg p {p with IE:=p.IE.set (a%1024*16+g%16) (32768+(wr:Int)*16384+(f:Int))} [⟨#[101,110,116,101,114]⟩,c,d,e,i]:=by
 intro w wb tag V xb cap D _ G K;obtain⟨bt,kr⟩:=iJ D;have A:=hid (fun x (h:w.heap.size<=x)=>fH (tag:=tag) h);have v:=hid kr;have n:=hid bt;generalize jb tag w.heap.size=tg at*;obtain⟨x0,H⟩:=gN G;have k:=hid (iT xb 1 (cap - 1) [c,d,e,i] w H R oS);rw[Q] at k;have ab:¬cap=1:=by simp at K;omega
 have C:=hid (fun W (h:Below w.heap.size w W)=>gX h x0);have o:=hid (fun W b ca (h:Below w.heap.size w W) (I:fY W b 0 [(s:Int),(g:Int),(f:Int),(wr:Int)]) (Y:tg b=0)=>oQ wb tg V p b 0 ca s g f wr a W (n.below h) S hl I Y h0 O hw N X hk hz L M T U);go_enter Tryz.func172,Tryz.ntmps172
 go_wp2_with fail
 refine k.mono ?_;rintro r w1 ⟨u,rfl,Z,m⟩;obtain⟨b,ca,rfl,aa,P,J⟩:=jX Z oS oS;have B:=hid (A.out b P);have j:=hid m;have q:=hid J;have x1:=C.out _ m;go_wp2_with fail
 refine (o.out w1 b ca j q B).mono ?_;rintro r w2 ⟨rfl,E,F⟩;have y:=hid E;have z:=hid F;go_wp2_with fail
 go_ret
 exact⟨rfl,tg,V,y.out,v.trans ((bj j).trans z)⟩
theorem DY {p:PW} {b c d e f g i:ByteArray} {t:Nat} {N:Nat->Int} (X:p.Fits) (hl:∀l∈p.ID,l.length<=100) (U:∀t∈[b,c,d,e,f,g,i],gh t=true) (T:[b,c,d,e,f,g,i].map Prs.hQ=[(t:Int),N 1,N 2,N 3,N 4,N 5,N 6]) (h0:fmE p t 6=0) (Z:t<p.IB.length) (hk:∀k,1<=k->k<4->N k≠ -1->fmE p (N k) (eqK k)=0) (G:0<=N 4) (H:N 4<p.IC.length) (I:0<=N 5) (J:N 5<=3) (K:0<=N 6) (L:N 6<=3) (Y:p.IB[t] 9=0):
  kg p (eqP p t N) [⟨#[101,113,117,105,112]⟩,b,c,d,e,f,g,i]:=by
 intro w wb tag V xb cap D _ M R;obtain⟨bt,kr⟩:=iJ D;have A:=hid (fun x (h:w.heap.size<=x)=>fH (tag:=tag) h);have v:=hid kr;have o:=hid bt;generalize jb tag w.heap.size=tg at*;obtain⟨x0,O⟩:=gN M;have m:=hid (iT xb 1 (cap - 1) [b,c,d,e,f,g,i] w O U oS);rw[T] at m;have ac:¬cap=1:=by simp at R;omega
 have C:=hid (fun W (h:Below w.heap.size w W)=>gX h x0);have q:=hid (fun W a ca (h:Below w.heap.size w W) (P:fY W a 0 [(t:Int),N 1,N 2,N 3,N 4,N 5,N 6]) (aa:tg a=0)=>oT wb tg V p a ca t N W (o.below h) X hl P aa h0 Z hk G H I J K L Y);go_enter Tryz.func172,Tryz.ntmps172
 go_wp2_with fail
 refine m.mono ?_;rintro r w1 ⟨u,rfl,hu,n⟩;obtain⟨a,ca,rfl,ab,S,Q⟩:=jX hu oS oS;have B:=hid (A.out a S);have j:=hid n;have s:=hid Q;have x1:=C.out _ n;go_wp2_with fail
 refine (q.out w1 a ca j s B).mono ?_;rintro r w2 ⟨rfl,E,F⟩;have y:=hid E;have z:=hid F;go_wp2_with fail
 go_ret
 exact⟨rfl,tg,V,y.out,v.trans ((bj j).trans z)⟩
theorem Gj {p:PW} {d e f m:ByteArray} {i j r g a:Nat} {s:Nat->Int} (hp:p.Fits) (hl:∀l∈p.ID,l.length<=100) (ab:∀t∈[d,e,f,m],gh t=true) (hm:[d,e,f,m].map Prs.hQ=[(i:Int),(j:Int),(r:Int),(g:Int)]) (ac:p.IA.length=p.kinds.length*16) (U:boE p i j=0) (hi:i<p.IA.length) (hj:j<p.IA.length) (hs:p.IA[i]=s) (h0:s 0≠1) (hr:r<=7) (Y:g<=65535) (aa:g=0∨(0<g∧(s 0=7∨s 0=8)∧s 5=0)) (O:s 4=a) (S:a<=7):
  kg p {p with IA:=p.IA.set j (kpS s (Bw.bw 6 a r:Nat) g i)} [⟨#[99,111,112,121]⟩,d,e,f,m]:=by
 intro w wb tag V xb cap N _ P X;obtain⟨bt,kr⟩:=iJ N;have J:=hid (fun x (h:w.heap.size<=x)=>fH (tag:=tag) h);have H:=hid kr;have D:=hid bt;generalize jb tag w.heap.size=tg at*;obtain⟨x0,Q⟩:=gN P;have y:=hid (iT xb 1 (cap - 1) [d,e,f,m] w Q ab oS);rw[hm] at y;have af:¬cap=1:=by simp at X;omega
 have M:=hid (fun W (h:Below w.heap.size w W)=>gX h x0);have E:=hid (fun W (h:Below w.heap.size w W)=>p5 wb tg V p i j r g a s W (D.below h) hp hl ac U hi hj hs h0 hr Y aa O S);go_enter Tryz.func172,Tryz.ntmps172
 go_wp2_with fail
 refine y.mono ?_;rintro r w1 ⟨u,rfl,hu,B⟩;obtain⟨o,ca,rfl,ae,Z,T⟩:=jX hu oS oS;have L:=hid (J.out o Z);have C:=hid B;have F:=hid T;have x1:=M.out _ B;go_upto_region 38 with fail
 have v:=hid (btr C (show Below w1.heap.size w1 w1.drew from aB w1 1));have n:=hid (F.below (show Below w1.heap.size w1 w1.drew from aB w1 1));have ad:=hid (aj _ _ (n.out 0 oS));refine bI (R:=fun W=>fY W o 0 [(i:Int),(j:Int),(r:Int),(g:Int)]) [14] [0,1,2,3,4,5,6,7,8,9,10,11,12] 2 oK n oK oK oK (fun _=>?_)
 repeat (refine Rf.rs ?_ rfl oR (fun W h=>by have h0:=h 0 oS;have b:=h 1 oS;have c:=h 2 oS;have A:=h 3 oS;clear h;rw[aC] at h0 b c A;simp only[bg,bC] at h0 b c A;go_simp;try rfl);simp only[jj])
 refine aM ?_;generalize w1.drew=w2 at*;refine Rf.r1 13 rfl (fun K q=>?_);refine wnt oR ?_;go_simp
 refine (E.out w2 v).mono ?_;rintro r w3 ⟨rfl,b,c⟩;have I:=hid b;have z:=hid c;have G:=hid (show fY w3 o 0 [(i:Int),(j:Int),(r:Int),(g:Int)] from fun k hk=>z.cell (n.out k hk) L);go_wp2_with fail
 refine q _ _ trivial (fun _=>G.out) (fun _ _=>?_)
 try simp only[jj]
 refine Rf.r1 14 rfl (fun K q=>?_);refine wnt oR ?_;go_simp
 refine q _ _ trivial (bX oK) (fun _ _=>?_)
 try simp only[jj]
 refine bc oK ?_ _;go_wp2_with fail
 go_ret
 exact⟨rfl,tg,V,I.out,H.trans ((bj v).trans z)⟩
theorem rS {a b:ByteArray} (h:a≠b):(a.toList==b.toList)=false:=by
 rw[ByteArray.toList_eq,ByteArray.toList_eq];refine beq_eq_false_iff_ne.2 fun e=>h (mh e)
theorem Gk {p:PW} {D c d e:ByteArray} {kk:Nat} {n m t:Int} (hp:p.Fits) (hl:∀l∈p.ID,l.length<=100) (hs:Snd p) (ah:kk<knB.length) (hx:knB[kk]=D) (am:∀j (b:j<knB.length),j<kk->knB[j]≠D) (an:∀t∈[c,d,e],gh t=true) (hm:[c,d,e].map Prs.hQ=[n,m,t]) (hE:mkE p n (2+(kk:Int)) m t=0):
  kg p (mkP p n (2+(kk:Int)) m t) [⟨#[109,97,107,101]⟩,D,c,d,e]:=by
 intro w wb tag V L cap aa ai z ae;obtain⟨bt,kr⟩:=iJ aa;have Z:=hid (fun x (h:w.heap.size<=x)=>fH (tag:=tag) h);have U:=hid kr;have O:=hid bt;generalize jb tag w.heap.size=tg at*;obtain⟨x0,au⟩:=gN z;have x1:=z 1 oS;have ab:fU w L 2 [c,d,e]:=fun j b=>by have:=z (j+2) (by simp at b ⊢;omega);rw[show 0+(j+2)=2+j by omega] at this;exact this
 have H:=hid (fun W (h:Below w.heap.size w W)=>iT L 2 (cap - 2) [c,d,e] W (fU.Jj ab h) an oS);rw[hm] at H;have aw:¬cap=2:=by simp at ae;omega
 obtain⟨kb,ko,ay,C,ao⟩:=ai;have F:=hid (fun W (h:Below w.heap.size w W)=>(⟨gX h x1,gX h C⟩:_∧_));have X:=hid (fun W (h:Below w.heap.size w W) j (b:j<knB.length)=>gX h (ao j b));have G:=hid (fun W (h:Below w.heap.size w W)=>nC n (2+(kk:Int)) m t p hp hl hs W wb tg V (O.below h));rw[hE] at G;have k7:(kk:Int)<7:=by have:knB.length=7:=rfl;omega
 have ax:((kk:Int)==7)=false:=by simp;omega
 have S:=hid am;have T:=hid hx;have aq:=hid ah;go_enter Tryz.func172,Tryz.ntmps172
 go_wp2_with fail
 go_loopw [5] (fun i wr=>∃(j:Nat),j<=kk∧i=.int .i64 (j:Int)∧Hid (Below w.heap.size w wr)) (fun i _=>kk - (intOf i).toNat)
 case atStart=>exact⟨0,oA,rfl,hid (af _ _)⟩
 case round=>
  obtain⟨j,b,rfl,f⟩:=hrel;obtain⟨x1,C⟩:=F.out _ f;have J:j<knB.length:=oA;have j7:(j:Int)<7:=oA;have M:=X.out _ f j J;by_cases al:j<kk
  ·have hn:=rS (S.out j J al);generalize knB[j]=y at M hn;go_upto_region 5 with fail
   refine bp oK oK ?_
   repeat (first|go_big_quiet_skip|(go_big_quiet_want;go_big_quiet_op;first|go_big_quiet_on|go_big_quiet_call (fail)))
   refine cU ?_;intro _ A;obtain⟨nq,B⟩:=A;subst B;have a:=hid (aG f nq);generalize wr.drewN nq=w3 at*;go_wp2_with fail
   exact⟨⟨j+1,oA,by go_num,a⟩,by simp[intOf];omega⟩
  obtain rfl:j=kk:=oA;rw[T.out] at M;go_upto_region 5 with fail
  refine bp oK oK ?_
  repeat (first|go_big_quiet_skip|(go_big_quiet_want;go_big_quiet_op;first|go_big_quiet_on|go_big_quiet_call (fail)))
  refine cU ?_;intro _ A;obtain⟨nq,B⟩:=A;subst B;have a:=hid (aG f nq);generalize wr.drewN nq=w3 at*;obtain⟨x1,C⟩:=F.out _ a;go_wp2_with fail
  refine (H.out _ a).mono ?_;rintro r w1 ⟨u,rfl,hu,ad⟩;obtain⟨s,ca,rfl,av,ag,ac⟩:=jX hu oS oS;have TG:=hid (Z.out s (aD a.size ag));have N:=hid (btr a ad);have P:=hid ac;go_upto_region 12 with fail
  have E:=hid (btr N (show Below w1.heap.size w1 w1.drew from aB w1 1));have q:=hid (P.below (show Below w1.heap.size w1 w1.drew from aB w1 1));have ar:=hid (aj _ _ (q.out 0 oS));refine bI (R:=fun W=>fY W s 0 [n,m,t]) [13] [0,1,2,3,4,5,6,7,8,9,10,11] 2 oK q oK oK oK (fun _=>?_)
  repeat (refine Rf.rs ?_ rfl oR (fun W h=>by have h0:=h 0 oS;have g:=h 1 oS;have o:=h 2 oS;clear h;rw[aC] at h0 g o;simp only[bg,bC] at h0 g o;go_simp;try rfl);simp only[jj])
  refine aM ?_;generalize w1.drew=w2 at*;refine Rf.r1 12 rfl (fun K v=>?_);refine wnt oR ?_;go_simp
  rw[show IntKind.i64.wrap (2+(j:Int))=2+(j:Int) from bS _ oA oA];refine (G.out w2 E).mono ?_;rintro r w4 ⟨rfl,ap,g,o⟩;obtain⟨V2,h3⟩:=o trivial;have Y:=hid h3;have I:=hid g;have Q:=hid (show fY w4 s 0 [n,m,t] from fun k hk=>I.cell (q.out k hk) TG);go_wp2_with fail
  refine v _ _ trivial (fun _=>Q.out) (fun _ _=>?_)
  try simp only[jj]
  refine Rf.r1 13 rfl (fun K v=>?_);refine wnt oR ?_;go_simp
  refine v _ _ trivial (bX oK) (fun _ _=>?_)
  try simp only[jj]
  refine bc oK ?_ _;go_wp2_with fail
  go_ret
  exact⟨rfl,ap,V2,Y.out,U.trans ((bj E).trans I)⟩
structure Own (w0 W:World) (wb:Nat) (tag:Nat->Nat) (V:Nat->Value) (p:PW):Prop where
 b:cb W wb tag V p
 t:∀k,k<w0.heap.size->tag k=0
 e:Below w0.heap.size w0 W
theorem Own.next {w0 W a:World} {wb:Nat} {tag:Nat->Nat} {V:Nat->Value} {p:PW} (h:Own w0 W wb tag V p) (c:Below W.heap.size W a):Own w0 a wb tag V p:=⟨h.b.below c,h.t,btr h.e c⟩
theorem Own.to {w0 W b:World} {wb:Nat} {tag tag':Nat->Nat} {V c:Nat->Value} {p p':PW} (h:Own w0 W wb tag V p) (d:cb b wb tag' c p') (hk:Kt tag tag' W b):Own w0 b wb tag' c p':=
 ⟨d,fun k a=>hk.t k (aE a h.e.size) (h.t k a),hk.k.below h.e h.e.size (fun k a e=>e (h.t k a))⟩
structure yR (ls:List ByteArray) (P:Nat->PW) (f c:Nat) (zs:List Int):Prop where
 n0:0<ls.length
 nn:ls.length<=200
 sz:∀t∈ls,t.size<=1000
 one:∃l,kM 32 (ls.getD 0 ByteArray.empty)=⟨#[119,111,114,108,100]⟩::l∧(∀t∈l,gh t=true)∧l.length<=100∧l.map Prs.hQ=(f:Int)::(c:Int)::zs∧P 1=wlP f c zs
 num:1<=f∧f<=24∧1<=c∧c<=4∧1<=zs.length∧zs.length<=8∧∀z∈zs,0<=z∧z<=3
 all:∀i,1<=i->i<ls.length->∃x l,kM 32 (ls.getD i ByteArray.empty)=x::l∧x≠⟨#[119,111,114,108,100]⟩∧x≠⟨#[99,111,100,101]⟩∧kg (P i) (P (i+1)) (x::l)
theorem kF (s:ByteArray) (P:Nat->PW) (f c:Nat) (zs:List Int) (w:World) (hs:s.size<=4000) (hr:yR (Prs.gB s) P f c zs) (aq:KnW w):
  Calls Tryz.prog 113 #[.string s] w fun r w'=>∃X tag,r=.returned (.tuple #[.agg (de X),.agg #[.int .i64 0,.int .i64 (-1)]])∧fV w' tag X (P (Prs.gB s).length)∧(∀k,k<w.heap.size->tag k=0)∧Below w.heap.size w w':=by
 have B0:=hid (bal (bal (af w.heap.size w) (.cells zW 28)) (.cells #[.int .i64 0,.int .i64 0] 47));have D:=hid (ct (aP w zW 28 w.heap.size 11 rfl oD) (bal (af _ _) (.cells #[.int .i64 0,.int .i64 0] 47)));have R:=hid (aP (w.alloc (.cells zW 28)) #[.int .i64 0,.int .i64 0] 47 (w.heap.size+1) 2 oS oD);have SZ:=hid (show w.heap.size+2=((w.alloc (.cells zW 28)).alloc (.cells #[.int .i64 0,.int .i64 0] 47)).heap.size by simp);have HL:=hid (fun W:World=>Prs.qU s W oA);obtain⟨ls,an⟩:∃ls,Prs.gB s=ls:=⟨_,rfl⟩
 rw[an] at HL hr ⊢;have n:=hid hr;have HK:=hid aq;have aK:(s.size:Int)<=4000:=oA;go_enter Tryz.func113,Tryz.ntmps113
 go_wp2_with fail
 refine (HL.out _).mono ?_;rintro r a ⟨lb,aL,rfl,ax,E⟩;generalize World.alloc (World.alloc w _) _=W0 at*;have L:=hid (btr B0 E);have al:=hid (ct D E);have am:=hid (ct R E);have O:=hid (show w.heap.size+2<=a.heap.size by have:=SZ.out;have:=E.size;omega);have ST:=hid ax;have T5:=hid (aP a zW 28 a.heap.size 11 rfl oD);go_upto_region 7 with (first|((with_reducible refine gst 28 ?_);refine wpList_store_mid rfl 28 _ _ rfl a.heap.size 0 zW rfl rfl T5 fD (by simp[Value.oneCell']) ?_))
 have u:=hid (World.there_setCells T5 a.heap.size 0 [.slice none 0 0,.slice none 0 0,.slice none 0 0,.slice none 0 0,.slice none 0 0,.slice none 0 0,.slice none 0 0,.slice none 0 0,.slice none 0 0,.slice none 0 0,.int .i64 0]);have KX:=hid (show Kp (fun k=>k=a.heap.size) (a.alloc (.cells zW 28)) ((a.alloc (.cells zW 28)).setCells a.heap.size 0 [.slice none 0 0,.slice none 0 0,.slice none 0 0,.slice none 0 0,.slice none 0 0,.slice none 0 0,.slice none 0 0,.slice none 0 0,.slice none 0 0,.slice none 0 0,.int .i64 0]) from aN (T:=fun k=>k=a.heap.size) (.inl rfl) _ _ _ (aV _ _));have B5:=hid (KX.below (bal (af a.heap.size a) (.cells zW 28)) oS (fun k hk e=>oA));generalize World.setCells _ _ _ _=W5 at u B5 ⊢;generalize ay:a.heap.size=wb at u ⊢;have M:=hid ay;have NN:=hid n.nn;have aQ:(ls.length:Int)<=200:=by have:=n.nn;omega
 have LS:=hid (fun W (h:Below a.heap.size a W) k (hk:k<ls.length)=>show W.cell? ⟨lb,k,none⟩=some (.string ls[k]) from by have:=ST.out k hk;rw[aC] at this;exact gX h this);have CU:=hid (fun W k (hk:k<ls.length)=>we ls[k] 32 W (by have:=n.sz ls[k] (av hk);omega));have KN:=hid (fun W (h:Below a.heap.size a W)=>HK.below (btr L h))
 go_loopw [6,7] (fun g i wr=>∃k:Nat,k<=ls.length∧i=.int .i64 (k:Int)∧((k=0∧g=.bool false∧Hid (wr.there wb 0 11∧Below a.heap.size a wr))∨(1<=k∧g=.bool true∧∃tag V,Hid (Own a wr wb tag V (P k))))) (fun _ i _=>ls.length - (intOf i).toNat)
 case atStart=>exact⟨0,oA,rfl,.inl ⟨rfl,rfl,hid ⟨u.out,B5.out⟩⟩⟩
 case round=>
  obtain⟨k,hk,rfl,h2⟩:=hrel;rcases h2 with ⟨rfl,rfl,N⟩|⟨ao,rfl,tag,V,z⟩
  ·have n0:=n.n0;have aM:(0:Int)<(ls.length:Int):=oA;obtain⟨l,e1,aw,au,hm,eP⟩:=n.one;obtain⟨f0,f1,c0,c1,z0,z1,hz⟩:=n.num;have j:=hid (CU.out wr 0 n0);have A:=LS.out _ N.2 0 n0;rw[show ls[0]=ls.getD 0 ByteArray.empty by rw[aa,ac n0];rfl] at j A;rw[e1] at j;have ag:=hid (show 3<=l.length by have:=dG List.length hm;simp at this;omega);have WL:=hid (fun y cap W (h:fU W y 1 l)=>pO y 1 cap f c zs l W h aw au hm f0 f1 c0 c1 z0 z1 hz);have EP:=hid eP;generalize ls.getD 0 ByteArray.empty=line at j A;have aH:(l.length:Int)<=100:=oA;go_wp2_with fail
   refine j.mono ?_;rintro r m ⟨y,J,rfl,I,F,Y⟩;obtain⟨x0,az⟩:=gN I;have ah:=hid az;have aF:¬J=1:=by have:=ag.out;simp at Y;omega
   have aJ:(1:Int)<=(l.length:Int)+1:=oA;have u:=hid (ct N.1 F);have B6:=hid (btr N.2 F);go_wp2_with fail
   refine (WL.out y (J - 1) m ah).mono ?_;rintro r w7 ⟨X,tag,rfl,hw,ad,G⟩;have T7:=hid (ct u G);have q:=hid (btr B6 G);have ai:=hid (aj _ _ (Option.isSome_iff_exists.1 (u.out 0 oA).1).choose_spec);have OW:=hid (show Own a (w7.setCells wb 0 [X 0,X 1,X 2,X 3,X 4,X 5,X 6,X 7,X 8,X 9,X 10]) wb (fun k=>if k=wb then 1 else tag k) X (P 1) from⟨by rw[EP.out];exact hw.box (ad wb ai) T7,fun k hk=>by rw[ae (by have:=M.out;omega)];exact ad k (aE hk B6.size),(aN (T:=fun k=>k=wb) (.inl rfl) _ _ _ (aV _ _)).below q q.size (fun k hk e=>by have:=M.out;omega)⟩);have p:=hid hw.Jb;go_wp2_with (first|((with_reducible refine gst 28 ?_);refine wpList_store_mid rfl 28 _ _ rfl wb 0 (de X) rfl rfl T7 fD p ?_))
   exact⟨⟨1,oA,by go_num,.inr ⟨oA,rfl,_,X,OW⟩⟩,by simp[intOf];omega⟩
  by_cases H:k<ls.length
  ·have aI:(k:Int)<(ls.length:Int):=oA;obtain⟨x,l,e1,nw,nc,bl⟩:=n.all k ao H;have j:=hid (CU.out wr k H);have A:=LS.out _ z.e k H;rw[show ls[k]=ls.getD k ByteArray.empty by rw[aa,ac H];rfl] at j A;rw[e1] at j;have BL:=hid bl;have aR:(x.toList==[119,111,114,108,100])=false:=by have:=rS nw;rw[ByteArray.toList_eq (bs:=⟨#[119,111,114,108,100]⟩)] at this;exact this
   have aO:(x.toList==[99,111,100,101])=false:=by have:=rS nc;rw[ByteArray.toList_eq (bs:=⟨#[99,111,100,101]⟩)] at this;exact this
   generalize ls.getD k ByteArray.empty=line at j A;go_wp2_with fail
   refine j.mono ?_;rintro r m ⟨y,J,rfl,I,F,Y⟩;have x0:=(gN I).1;have d:=hid (z.next F);have BC:=hid (BL.out m wb tag V y J d.b (KN.out _ d.e) I Y);go_wp2_with fail
   refine BC.mono ?_;rintro r w7 ⟨rfl,aA,V2,G,ap⟩;have p:=hid (d.to G ap);go_wp2_with fail
   exact⟨⟨k+1,oA,by go_num,.inr ⟨oA,rfl,aA,V2,p⟩⟩,by simp[intOf];omega⟩
  obtain rfl:k=ls.length:=oA;have aG:¬((ls.length:Int)<(ls.length:Int)):=oA;go_upto_region 26 with fail
  have L0:=hid (show w.heap.size<a.heap.size by have:=O.out;omega);have L1:=hid (show w.heap.size+1<a.heap.size by have:=O.out;omega);have aD:=hid (show w.heap.size≠wb∧w.heap.size+1≠wb by have:=O.out;have:=M.out;omega);have BE:=hid (aB wr 1);have OS:=hid z.b.o.Jb;have R5:=hid z.b.r;refine wp_region_held_drew (S:=fun W=>W.rangeAt wb 0 (de V).toList) oK (bK R5 BE) (fun hH=>?_);refine tg 0 (.agg (de V)) rfl (yieldsIf_load_mid oR _ _ rfl _ _ rfl (de V).toList _ (fun _ h=>h) Tryz.underlying28 rfl fD) hH ?_;simp only[jj];refine wpAnyH_ready (rs:=[1]) oK oS (AllReadyH.cons rfl (fun K B=>?_) AllReadyH.nil);refine wnt oR ?_;simp only[db,bC,bg];go_simp
  refine (qf _).mono ?_;rintro e m ⟨rfl,hb⟩;have d:=hid (z.next (btr BE hb));have D:=hid (ct al d.e);have R:=hid (ct am d.e);refine B _ _ d.b.r (fun _=>?_);have Z:Kp (fun k=>k=w.heap.size) m (m.setCells w.heap.size 0 (de V).toList):=aN (T:=fun k=>k=w.heap.size) (.inl rfl) _ _ _ (aV _ _);have p:=hid (d.b.kp Z (fun k _ e=>by rw[e];exact d.t _ L0) (fun _ _=>rfl));have TZ:=hid d.t;have q:=hid (Z.below (btr L d.e) (btr L d.e).size (fun k hk e=>oA));have U:=hid (d9 R Z oA);have Q7:=hid (World.rangeAt_setCells_same m w.heap.size 0 (de V).toList D);refine wpAnyH_ready (rs:=[2]) oK oS (AllReadyH.cons rfl (fun K B=>?_) AllReadyH.nil);refine wnt oR ?_;simp only[db,bC,bg];refine wp_store_mid 28 _ _ rfl w.heap.size 0 (de V) rfl rfl D fD OS ?_;generalize m.setCells w.heap.size 0 (de V).toList=C at p q U Q7 ⊢;refine B _ _ p.r (fun _=>?_);have ab:Kp (fun k=>k=w.heap.size+1) C (C.setCells (w.heap.size+1) 0 [.int .i64 0,.int .i64 (-1)]):=aN (T:=fun k=>k=w.heap.size+1) (.inl rfl) _ _ _ (aV _ _);have Q:=hid (p.kp ab (fun k _ e=>by rw[e];exact TZ _ L1) (fun _ _=>rfl));have B8:=hid (ab.below q q.size (fun k hk e=>oA));have Q8:=hid (eN Q7 ab oA);have P8:=hid (World.rangeAt_setCells_same C (w.heap.size+1) 0 [.int .i64 0,.int .i64 (-1)] U.out);refine wpAnyH_ready (rs:=[3]) oK oS (AllReadyH.cons rfl (fun K B=>?_) AllReadyH.nil);refine wnt oR ?_;simp only[db,bC,bg];refine uN rfl (w.heap.size+1) rfl rfl U ?_;generalize C.setCells (w.heap.size+1) 0 [.int .i64 0,.int .i64 (-1)]=W8 at Q B8 Q8 P8 ⊢;refine B _ _ Q.r (fun _=>?_);refine dc oK ?_ _;go_wp2_with fail
  exact ar (v:=.tuple #[.agg (de V),.agg #[.int .i64 0,.int .i64 (-1)]]) (mU rfl rfl (run_loadVar_mid _ w.heap.size 0 28 (de V).toList _ Q8 Tryz.underlying28 rfl fD) rfl (run_loadVar_mid _ (w.heap.size+1) 0 47 [.int .i64 0,.int .i64 (-1)] _ P8 Tryz.underlying47 rfl jx)) rfl ⟨V,rfl,tag,Q.o,fun k hk=>TZ.out k (by have:=L0.out;omega),B8.out⟩
def tI (p:PW):Bool:=decide (p.IE.length<=1000)&&(decide (p.kinds.length<=1000)&&(decide (p.IA.length<=1000)&&(decide (p.IB.length<=1000)&&(decide (p.lines.length<=1000)&&(p.lines.all (fun l=>decide (l.length<=1000))&&(decide (p.bits.length<=1000)&&(decide (p.IC.length<=1000)&&(decide (p.ready.length<=1000)&&(p.ready.all (fun l=>decide (l.length<=1000))&&(decide (p.ID.length<=1000)&&(decide (p.IG.length<=1000)&&p.ID.all (fun l=>decide (l.length<=100)))))))))))))
theorem lA {p:PW} (h:tI p=true):p.Fits∧∀l∈p.ID,l.length<=100:=by
 unfold tI at h;simp only[am,bf,aU] at h;obtain⟨a,f,g,i,j,k,m,n,o,b,c,d,e⟩:=h;exact⟨⟨a,f,g,i,j,k,m,n,o,b,c,d⟩,e⟩
def uv (a b:ByteArray):Bool:=a.data.toList==b.data.toList
theorem j0 {a b:ByteArray} (h:uv a b=true):a=b:=mh (by unfold uv at h;simpa using h)
theorem sL {a b:ByteArray} (h:uv a b=false):a≠b:=fun e=>by subst e;unfold uv at h;simp at h
def nat (t:ByteArray):Nat:=(Prs.hQ t).toNat
def lE (t:ByteArray):Bool:=decide (0<=Prs.hQ t)
theorem xL {t:ByteArray} (h:lE t=true):gh t=true∧Prs.hQ t=(nat t:Int):=by
 unfold lE at h;have:=aA h;refine⟨?_,by unfold nat;omega⟩;unfold gh;rw[bZ];exact .inr h
theorem _root_.Go.Proofs.YtnccmdndkmmhcaaGreatDoor.dN:type_of% @xL:= @xL
def clC (p:PW) (s b n:Nat):Bool:=tI p&&(decide (p.IA.length=p.kinds.length*16)&&(decide (s<p.IA.length)&&(decide (opE p s=0)&&(decide (1<=n)&&(decide (b+n<=p.kinds.length)&&((List.range n).all (fun d=>p.kinds.getD (b+d) 0==0)&&p.IA.all (fun s=>s 0 !=1)))))))
theorem Eo {p:PW} {b a c:ByteArray} (d:lE b=true) (e:lE a=true) (g:lE c=true) (h:clC p (nat b) (nat a) (nat c)=true):kg p {p with IA:=p.IA.set (nat b) (clk (nat a) (nat c))} [⟨#[99,108,97,121]⟩,b,a,c]:=by
 unfold clC at h;simp only[am,bf,aU,List.mem_range,bu,bne_iff_ne] at h;obtain⟨a1,k,l,m,n,o,q,r⟩:=h;obtain⟨u,hl⟩:=lA a1;refine Gi u hl (fun t j=>?_) (by simp only[cw,eT,(dN d).2,(dN e).2,(dN g).2]) k l m n o (fun f s b1 b2=>?_) (fun i hi=>r _ (av hi))
 ·simp only[bL,dA,or_false] at j;rcases j with rfl|rfl|rfl
  ·exact (dN d).1
  ·exact (dN e).1
  ·exact (dN g).1
 ·have:=q (f - nat a) oA;rw[show nat a+(f - nat a)=f by omega,aa,ac s] at this;exact this
def mkC (p:PW) (kk:Nat) (xk:ByteArray) (n m t:Int):Bool:=tI p&&(rK p&&(decide (kk<knB.length)&&(uv (knB.getD kk ByteArray.empty) xk&&((List.range kk).all (fun j=> !uv (knB.getD j ByteArray.empty) xk)&&decide (mkE p n (2+(kk:Int)) m t=0)))))
theorem Fs {p:PW} {f:Nat} {g a b c:ByteArray} (n:gh a=true) (o:gh b=true) (q:gh c=true) (h:mkC p f g (Prs.hQ a) (Prs.hQ b) (Prs.hQ c)=true):kg p (mkP p (Prs.hQ a) (2+(f:Int)) (Prs.hQ b) (Prs.hQ c)) [⟨#[109,97,107,101]⟩,g,a,b,c]:=by
 unfold mkC at h;simp only[am,bf,aU,List.mem_range,dF] at h;obtain⟨a1,i,d,k,l,m⟩:=h;obtain⟨u,hl⟩:=lA a1;refine Gk u hl (oq i) d ?_ (fun j r s=>?_) (fun t e=>?_) rfl m
 ·have:=j0 k;rw[aa,ac d] at this;exact this
 ·have:=sL (l j s);rw[aa,ac r] at this;exact this
 ·simp only[bL,dA,or_false] at e;rcases e with rfl|rfl|rfl
  ·exact n
  ·exact o
  ·exact q
def cpC (p:PW) (i j r g:Nat) (s:Nat->Int):Bool:=tI p&&(decide (p.IA.length=p.kinds.length*16)&&(decide (boE p i j=0)&&(decide (i<p.IA.length)&&(decide (j<p.IA.length)&&(decide (s 0≠1)&&(decide (r<=7)&&(decide (g<=65535)&&((decide (g=0)||(decide (0<g)&&((decide (s 0=7)||decide (s 0=8))&&decide (s 5=0))))&&(decide (0<=s 4)&&decide (s 4<=7))))))))))
theorem Ep {p:PW} {a b c d:ByteArray} (f:lE a=true) (g:lE b=true) (i:lE c=true) (j:lE d=true) (h:cpC p (nat a) (nat b) (nat c) (nat d) (p.IA.getD (nat a) fv)=true):
  kg p {p with IA:=p.IA.set (nat b) (kpS (p.IA.getD (nat a) fv) (Bw.bw 6 ((p.IA.getD (nat a) fv) 4).toNat (nat c):Nat) (nat d) (nat a))} [⟨#[99,111,112,121]⟩,a,b,c,d]:=by
 unfold cpC at h;simp only[am,bZ,bf] at h;obtain⟨a1,l,m,e,n,o,q,r,s,v,w⟩:=h;obtain⟨u,hl⟩:=lA a1;refine Gj u hl (fun t k=>?_) (by simp only[cw,eT,(dN f).2,(dN g).2,(dN i).2,(dN j).2]) l m e n (by rw[aa,ac e];rfl) o q r s oA oA;simp only[bL,dA,or_false] at k;rcases k with rfl|rfl|rfl|rfl
 ·exact (dN f).1
 ·exact (dN g).1
 ·exact (dN i).1
 ·exact (dN j).1
def etC (p:PW) (s g f wr:Nat):Bool:=tI p&&(decide (fmE p s 4=0)&&(decide (g<=255)&&(decide (wr<=1)&&(decide (f<p.kinds.length)&&(decide (p.IE.length=p.kinds.length*16)&&(decide (p.kinds.getD f 0=3)&&decide (p.IE.getD (s*16+g/16) 0=0)))))))
theorem Ez {p:PW} {a b c d:ByteArray} (e:lE a=true) (f:lE b=true) (g:lE c=true) (i:lE d=true) (h:etC p (nat a) (nat b) (nat c) (nat d)=true):
  kg p {p with IE:=p.IE.set (nat a*16+nat b/16) (32768+(nat c:Int))} [⟨#[101,110,116,101,114]⟩,a,b,c,d]:=by
 unfold etC at h;simp only[am,bf] at h;obtain⟨a1,k,l,m,n,o,q,r⟩:=h;obtain⟨s,hl⟩:=lA a1;refine BF s hl (fun t j=>?_) (by simp only[cw,eT,(dN e).2,(dN f).2,(dN g).2,(dN i).2]) k l m n o q r;simp only[bL,dA,or_false] at j;rcases j with rfl|rfl|rfl|rfl
 ·exact (dN e).1
 ·exact (dN f).1
 ·exact (dN g).1
 ·exact (dN i).1
def epC (p:PW) (s g f wr ev:Nat):Bool:=tI p&&(decide (fmE p s 4=0)&&(decide (g<=255)&&(decide (wr<=1)&&(decide (f<p.kinds.length)&&(decide (p.IE.length=p.kinds.length*16)&&(decide (p.kinds.getD f 0=2)&&(decide (p.IE.getD (s*16+g/16) 0=(ev:Int))&&(decide (0<ev)&&(decide (ev<=65535)&&(decide (ev%1024*16+g%16<p.IE.length)&&decide (p.IE.getD (ev%1024*16+g%16) 0=0)))))))))))
theorem Ex {p:PW} {d a b c:ByteArray} {e:Nat} (f:lE d=true) (g:lE a=true) (i:lE b=true) (j:lE c=true) (h:epC p (nat d) (nat a) (nat b) (nat c) e=true):
  kg p {p with IE:=p.IE.set (e%1024*16+nat a%16) (32768+(nat c:Int)*16384+(nat b:Int))} [⟨#[101,110,116,101,114]⟩,d,a,b,c]:=by
 unfold epC at h;simp only[am,bf] at h;obtain⟨a1,o,q,r,s,u,v,w,x,l,m,n⟩:=h;obtain⟨y,hl⟩:=lA a1;refine Bz y hl (fun t k=>?_) (by simp only[cw,eT,(dN f).2,(dN g).2,(dN i).2,(dN j).2]) o q r s u v w x l m n;simp only[bL,dA,or_false] at k;rcases k with rfl|rfl|rfl|rfl
 ·exact (dN f).1
 ·exact (dN g).1
 ·exact (dN i).1
 ·exact (dN j).1
def six (a b c d e f:ByteArray) (k:Nat):Int:=[0,Prs.hQ a,Prs.hQ b,Prs.hQ c,Prs.hQ d,Prs.hQ e,Prs.hQ f].getD k 0
def eqC (p:PW) (t:Nat) (N:Nat->Int):Bool:=tI p&&(decide (fmE p t 6=0)&&(decide (t<p.IB.length)&&((decide (N 1= -1)||decide (fmE p (N 1) (eqK 1)=0))&&((decide (N 2= -1)||decide (fmE p (N 2) (eqK 2)=0))&&((decide (N 3= -1)||decide (fmE p (N 3) (eqK 3)=0))&&(decide (0<=N 4)&&(decide (N 4<p.IC.length)&&(decide (0<=N 5)&&(decide (N 5<=3)&&(decide (0<=N 6)&&(decide (N 6<=3)&&decide ((p.IB.getD t bl) 9=0))))))))))))
theorem Ey {p:PW} {a b c d e f g:ByteArray} (m:lE a=true) (A:gh b=true) (B:gh c=true) (C:gh d=true) (D:gh e=true) (E:gh f=true) (F:gh g=true) (h:eqC p (nat a) (six b c d e f g)=true):
  kg p (eqP p (nat a) (six b c d e f g)) [⟨#[101,113,117,105,112]⟩,a,b,c,d,e,f,g]:=by
 unfold eqC at h;simp only[am,bZ,bf] at h;obtain⟨a1,s,l,u,v,w,x,y,z,o,q,r,j⟩:=h;obtain⟨H,hl⟩:=lA a1;refine DY H hl (fun t n=>?_) (by simp only[cw,eT,(dN m).2];rfl) s l (fun k k1 I i=>?_) x y z o q r (by rw[aa,ac l] at j;exact j)
 ·simp only[bL,dA,or_false] at n;rcases n with rfl|rfl|rfl|rfl|rfl|rfl|rfl
  ·exact (dN m).1
  ·exact A
  ·exact B
  ·exact C
  ·exact D
  ·exact E
  ·exact F
 ·have G:k=1∨k=2∨k=3:=oA;rcases G with rfl|rfl|rfl
  ·exact u.resolve_left i
  ·exact v.resolve_left i
  ·exact w.resolve_left i
def Hx (x:ByteArray):Nat:=(knB.map (uv x)).idxOf true
def vB (p:PW):List ByteArray->Option PW
 |[x,a,b,c]=>if uv ⟨#[99,108,97,121]⟩ x&&(lE a&&(lE b&&(lE c&&clC p (nat a) (nat b) (nat c)))) then some {p with IA:=p.IA.set (nat a) (clk (nat b) (nat c))} else none
 |[x,a,b,c,d]=>
  if uv ⟨#[109,97,107,101]⟩ x then (if gh b&&(gh c&&(gh d&&mkC p (Hx a) a (Prs.hQ b) (Prs.hQ c) (Prs.hQ d))) then some (mkP p (Prs.hQ b) (2+(Hx a:Int)) (Prs.hQ c) (Prs.hQ d)) else none)
  else if lE a&&(lE b&&(lE c&&lE d)) then
   (if uv ⟨#[99,111,112,121]⟩ x then (if cpC p (nat a) (nat b) (nat c) (nat d) (p.IA.getD (nat a) fv) then some {p with IA:=p.IA.set (nat b) (kpS (p.IA.getD (nat a) fv) (Bw.bw 6 ((p.IA.getD (nat a) fv) 4).toNat (nat c):Nat) (nat d) (nat a))} else none)
   else if uv ⟨#[101,110,116,101,114]⟩ x then
    (if etC p (nat a) (nat b) (nat c) (nat d) then some {p with IE:=p.IE.set (nat a*16+nat b/16) (32768+(nat c:Int))}
    else if epC p (nat a) (nat b) (nat c) (nat d) (p.IE.getD (nat a*16+nat b/16) 0).toNat then some {p with IE:=p.IE.set ((p.IE.getD (nat a*16+nat b/16) 0).toNat%1024*16+nat b%16) (32768+(nat d:Int)*16384+(nat c:Int))} else none)
   else none)
  else none
 |[x,a,b,c,d,e,f,g]=>if uv ⟨#[101,113,117,105,112]⟩ x&&(lE a&&(gh b&&(gh c&&(gh d&&(gh e&&(gh f&&(gh g&&eqC p (nat a) (six b c d e f g)))))))) then some (eqP p (nat a) (six b c d e f g)) else none
 |_=>none
theorem Au {p p':PW}:∀{xs:List ByteArray},vB p xs=some p'->kg p p' xs
 |[x,a,b,c],h=>by
  rw[vB] at h;split at h
  ·rename_i hc;simp only[am] at hc;obtain⟨i,j,k,l,m⟩:=hc
   cases h
   rw[<-j0 i];exact Eo j k l m
  ·cases h
 |[x,a,b,c,d],h=>by
  rw[vB] at h;split at h
  ·rename_i hx;split at h
   ·rename_i hc;simp only[am] at hc;obtain⟨i,j,k,l⟩:=hc
    cases h
    rw[<-j0 hx];exact Fs i j k l
   ·cases h
  ·split at h
   ·rename_i hn;simp only[am] at hn;obtain⟨i,j,k,l⟩:=hn;split at h
    ·rename_i hx;split at h
     ·rename_i hc
      cases h
      rw[<-j0 hx];exact Ep i j k l hc
     ·cases h
    ·split at h
     ·rename_i hx;split at h
      ·rename_i hc
       cases h
       rw[<-j0 hx];exact Ez i j k l hc
      ·split at h
       ·rename_i hc
        cases h
        rw[<-j0 hx];exact Ex i j k l hc
       ·cases h
     ·cases h
   ·cases h
 |[x,a,b,c,d,e,f,g],h=>by
  rw[vB] at h;split at h
  ·rename_i hc;simp only[am] at hc;obtain⟨i,j,k,l,m,n,o,q,r⟩:=hc
   cases h
   rw[<-j0 i];exact Ey j k l m n o q r
  ·cases h
 |[],h=>by cases h
 |[_],h=>by cases h
 |[_,_],h=>by cases h
 |[_,_,_],h=>by cases h
 |[_,_,_,_,_,_],h=>by cases h
 |[_,_,_,_,_,_,_],h=>by cases h
 |_::_::_::_::_::_::_::_::_::_,h=>by cases h
def vJ:List (List ByteArray)->PW->Nat->Option PW
 |[],p,_=>some p
 |_::_,p,0=>some p
 |xs::r,p,n+1=>match vB p xs with
  |some q=>vJ r q n
  |none=>none
theorem mW:∀{a:List (List ByteArray)} {p p':PW} {n:Nat} {xs:List ByteArray},a[n]? =some xs->vJ a p (n+1)=some p'->∃q,vJ a p n=some q∧vB q xs=some p'
 |[],_,_,_,_,h,_=>by simp at h
 |ys::r,p,p',0,xs,h,hr=>by
  simp at h;subst h;unfold vJ at hr;split at hr
  ·rename_i q hq;have:q=p':=by cases r<;>(unfold vJ at hr;cases hr;rfl)
   subst this;exact⟨p,by unfold vJ;rfl,hq⟩
  ·cases hr
 |ys::r,p,p',n+1,xs,h,hr=>by
  simp only[aX] at h;unfold vJ at hr;split at hr
  ·rename_i q hq;obtain⟨d,b,c⟩:=mW h hr;refine⟨d,?_,c⟩;unfold vJ;rw[hq];exact b
  ·cases hr
