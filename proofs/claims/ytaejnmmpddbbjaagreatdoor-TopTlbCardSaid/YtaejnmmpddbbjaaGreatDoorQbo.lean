/- Qbo -/
import Derived.Test.YtaejnmmpddbbjaaGreatDoorQau
namespace Go.Proofs.YtaejnmmpddbbjaaGreatDoor.Wd
open Go.RowKit Mem Bw Nums Mmu
set_option maxRecDepth 100000
set_option maxHeartbeats 8000000
theorem settled_none (wb:Nat) (tg:Nat→Nat) (V:Nat→Value) (p:PW) (c:Nat) (W:World) (bt:BoxT W wb tg V p) (hp:p.Fits) (O:Snd p) (hc:c<p.cores.length) (hz:p.cores.getD c (-1)= -1):
  Calls Tryz.prog 44 #[.pointer (some ⟨wb,0,none⟩),.int .i64 c] W fun r W'=>r=.returned (.tuple #[])∧∃tag',BoxT W' wb tag' V (rlP p c)∧Kt tg tag' W W':=by
 have cp:(p.cores.length:Int)≤1000:=by have:=hp.cores;omega
 have bV:(c:Int)<(p.cores.length:Int):=by omega
 have bW:(c:Int)≤1000:=by omega
 have cq:(p.ready.length:Int)≤1000:=by have:=hp.ready;omega
 obtain⟨f,ab,e6⟩:=bt.o.cores.form (by omega);have E6:=hid e6;obtain⟨t,eR⟩:=bt.o.ready.form;have J:=hid eR;obtain⟨m,hm⟩:∃m,tnV p=m:=⟨_,rfl⟩
 have bA:=hid hm;have a3:=hid (show rlP p c=rnx p m c 4 by unfold rlP;rw[ag hz,hm]);have br:=hid hz;have bn:=hid hp;have bv:=hid (show c*4+4≤p.ready.length by rw[O.lf.ready];omega);have bk:=hid O.lf.d1;have bz:=hid (show 0≤p.time∧p.time≤1000000 by have h:=O.tm;unfold within at h;simpa using h);have aG:=E6;have aV:=hid hc;obtain⟨g3,bE,e3⟩:=bt.o.tasks.form (by rw[O.lf.tasks];have:=O.lf.k1;omega);have aP:=hid e3;have cj:(p.tasks.length:Int)≤1000:=by have:=hp.tasks;omega
 have bp:=hid (fun (n:Nat) (H:n<p.ready.length)=>show (p.ready.getD n []).length≤1000 by rw[aa,ac H];exact hp.next _ (aw H));have bD:=hid (fun (n:Nat) (H:n<p.ready.length)=>show ∀z∈p.ready.getD n [],0≤z∧z<(p.tasks.length:Int) by rw[aa,ac H];exact rd_in O _ (aw H));have D:=hid bt;have ao:=hid (Kt.refl tg W);have c6:W.cell? ⟨wb,6,none⟩=some (.slice (some ⟨f,0,none⟩) p.cores.length ab):=by rw[af bt.r (k:=6) rfl,e6]
 have x6:W.cell? ⟨f,c,none⟩=some (.int .i64 (-1)):=by rw[(bt.coresAt e6 hc).1,hz]
 clear bt hp O hc hz hm e6 eR e3;go_enter Tryz.func44,Tryz.ntmps44
 go_upto_region 1 with fail
 go_quiet (fail)
 have B3:=hid (D.below (bc (aj W.heap.size W) nq));have K3:=hid (ao.trans (.below (bc (aj W.heap.size W) nq)));clear D ao c6 x6;generalize World.drewN _ _=w2 at*;have D:=B3;have ao:=K3;clear B3 K3;generalize bH:w2=E at*;clear bH;have aD:=hid (fun Y (h:BoxT Y wb tg V (p))=>turn_quiet wb tg V (p) Y h bn bk bz);rw[bA.out] at aD;have c6:E.cell? ⟨wb,6,none⟩=some (.slice (some ⟨f,0,none⟩) p.cores.length ab):=by rw[af D.r (k:=6) rfl,E6.out]
 have x6:E.cell? ⟨f,c,none⟩=some (.int .i64 (-1)):=by rw[(D.coresAt aG aV).1,br.out]
 go_wp2_with fail
 clear c6 x6
 go_loopw [5] (fun i wr=>∃(k:Nat) (x:Int),k≤4∧Hid (x=(k:Int) - 1)∧i=.int .i64 x∧Hid (Below E.heap.size E wr∧rnx (p) m c 4=rnx (p) m c k)) (fun i _=>(intOf i+1).toNat)
 case atStart=>exact⟨4,3,by omega,hid rfl,rfl,hid ⟨aj _ _,rfl⟩⟩
 case round=>
  obtain⟨k,x,hk,HX,rfl,L⟩:=hrel;have I:=hid L.1;have HV:=hid L.2;clear L;by_cases h0:0≤x
  ·obtain⟨j,rfl⟩:∃j:Nat,x=j:=⟨x.toNat,by omega⟩
   obtain rfl:k=j+1:=by have:=HX.out;omega
   obtain⟨n,H⟩:∃n:Nat,c*4+j=n:=⟨_,rfl⟩
   have cc:(c:Int)*4+(j:Int)=(n:Int):=by omega
   have av:n<(p).ready.length:=by have:=bv.out;omega
   have ct:(n:Int)<((p).ready.length:Int):=by omega
   have aH:=hid av;have aI:=hid (show rnx (p) m c 4=if 0≤ixP (dmB (p) m) ((p).ready.getD n []) then {p with cores:=(p).cores.set c (((p).ready.getD n []).getD (ixP (dmB (p) m) ((p).ready.getD n [])).toNat 0),ready:=(p).ready.set n (((p).ready.getD n []).take (ixP (dmB (p) m) ((p).ready.getD n [])).toNat++((p).ready.getD n []).drop ((ixP (dmB (p) m) ((p).ready.getD n [])).toNat+1))} else rnx (p) m c j by rw[HV.out, ←H];rfl);have ad:=(D.below I).o.ready;rw[J.out] at ad;obtain⟨u,cu,hu⟩:=ad.at av;unfold ci at hu;have bC:=hid hu.2;have bg:=dm hu.1;obtain⟨qu,d,q,rfl,bf⟩:=hu.shape;have bB:=hid bg;have c7:wr.cell? ⟨wb,7,none⟩=some (.slice (some ⟨t,0,none⟩) (p).ready.length (p).ready.length):=by rw[af (D.below I).r (k:=7) rfl,J.out]
   have cg:(j:Int)≤3:=by omega
   have az:=hid (bp.out n av);have bq:=hid (bD.out n av);have HQ:=hid bf;have aT:=hid (show ((p).ready.getD n []).length≤q by
    rcases hu.1.2 with ⟨h1,F⟩|⟨_,_,_,h1,_,_,F,_⟩
    ·simp only at F;omega
    ·cases h1;exact F)
   generalize bJ:(p).ready.getD n []=l at*;have cm:(l.length:Int)≤1000:=by have:=az.out;omega
   clear hu bf bg ad av H bJ;generalize wr=wo at*;go_wp2_with fail
   clear c7 cu
   go_loopw [7] (fun i wr=>∃(i':Nat),i'≤l.length∧i=.int .i64 i'∧Hid (Below wo.heap.size wo wr∧∀j (b:j<l.length),j<i'→dmB (p) m l[j]=false)) (fun i _=>l.length - (intOf i).toNat)
   case atStart=>exact⟨0,by omega,rfl,hid ⟨aj _ _,fun j _ h=>by omega⟩⟩
   case round=>
    obtain⟨i,hi,rfl,L⟩:=hrel;have BI:=hid L.1;have HN:=hid L.2;clear L;by_cases ap:i<l.length
    ·have cs:(i:Int)<(l.length:Int):=by omega
     have bO:=HQ.out (by omega);subst bO;have am:=hid ((D.below I).below BI);have Q:=hid (show ∀j (b:j<l.length),wr.cell? ⟨d,j,none⟩=some (.int .i64 l[j]) from fun j b=>by
      obtain⟨q2,b2,o2,bU,e2,bN,bR⟩:=bB.below BI
      cases e2
      have h3:=bN (by omega)
      cases h3
      have:=bR j b;rw[aC] at this;exact this)
     have aB:=hid (bq.out _ (aw ap));have ck:=Q.out i ap;obtain⟨y,hy⟩:∃y,l[i]=y:=⟨_,rfl⟩
     rw[hy] at ck aB;have HY:=hid hy;clear hy;obtain⟨y',bP⟩:∃y':Nat,y=y':=⟨y.toNat,by have:=aB.1;omega⟩
     subst bP;have bQ:(y':Int)<((p).tasks.length:Int):=aB.2;have c3:wr.cell? ⟨wb,3,none⟩=some (.slice (some ⟨g3,0,none⟩) (p).tasks.length bE):=by rw[af am.r (k:=3) rfl,aP.out]
     have aM:=am.taskAt aP (i:=y') (by omega) (show 19<20 by omega);have U:=hid (show dmB (p) m y'=((p).tasks.getD y' bl 19==m) by unfold dmB;rw[ah]);generalize (p).tasks.getD y' bl 19=z at aM U;by_cases bj:z=m
     ·subst bj;rw[beq_self_eq_true] at U;have aE:=hid (show ixP (dmB (p) z) l=i by
       have h1:l.findIdx (dmB (p) z)=i:=by
        rw[List.findIdx_eq ap];exact⟨by rw[HY.out];exact U,fun j b=>HN.out j (by omega) b⟩
       unfold ixP;rw[h1,ag ap])
      have a2:=hid (show rnx (p) z c 4={p with cores:=(p).cores.set c y',ready:=(p).ready.set n (l.take i++l.drop (i+1))} by
       rw[aI.out,aE.out,ag (by omega),ah,aa (l:=l),ac ap,aS,HY.out])
      go_upto_region 12 with fail
      go_quiet (first|(go_at_call 80;refine Calls.quiet_of (aD.out _ (am.below (aA wr _)))))
      have BY:=hid (am.below (bc (aj wr.heap.size wr) nq));have KY:=hid (show Kt tg tg E (wr.drewN nq) from .below (btr (btr I BI) (bc (aj wr.heap.size wr) nq)));have a4:(wr.drewN nq).cell? ⟨d,i,none⟩=some (.int .i64 y'):=ck;have aO:=hid (show ∀j (b:j<l.length),(wr.drewN nq).cell? ⟨d,j,none⟩=some (.int .i64 l[j]) from fun j b=>Q.out j b);clear ck c3 aM Q;have Q:=aO;generalize World.drewN _ _=A at*;have bu:=hid (show d≠f from fun e=>by
       have h1:=bC.out d rfl;have F:=D.o.cores;rw[E6.out] at F;have h3:=F.2 f rfl;rw[e] at h1;omega)
      clear aD aO aE aI HN;obtain⟨y,bh⟩:∃y:Int,(y':Int)=y:=⟨_,rfl⟩
      rw[bh] at a4 a2;clear bh HY aB bQ U;go_upto_region 13 with fail
      have c6:A.cell? ⟨wb,6,none⟩=some (.slice (some ⟨f,0,none⟩) p.cores.length ab):=by rw[af BY.r (k:=6) rfl,E6.out]
      have P:Hid (Below A.heap.size A A.drew):=hid (aA A 1);obtain⟨x6,f6⟩:=(BY.below P).coresAt aG aV;obtain⟨b7,k7⟩:=(BY.below P).coresCell aG c y;have B7:=hid (show BoxT (A.setCell ⟨f,c,none⟩ (.int .i64 y)).drew wb tg V {p with cores:=(p).cores.set c y} from b7);have K7:=hid (show Kt tg tg E (A.setCell ⟨f,c,none⟩ (.int .i64 y)).drew from (KY.trans (.below P)).trans k7);have S7:=hid (show (A.setCell ⟨f,c,none⟩ (.int .i64 y)).drew.cell? ⟨wb,6,none⟩=some (.slice (some ⟨f,0,none⟩) p.cores.length ab) by rw[af B7.r (k:=6) rfl,E6.out]);have C7:=hid (show ∀j (b:j<l.length),(A.setCell ⟨f,c,none⟩ (.int .i64 y)).drew.cell? ⟨d,j,none⟩=some (.int .i64 l[j]) from fun j b=>(World.cell?_setCell_far A ⟨f,c,none⟩ ⟨d,j,none⟩ _ (fun e=>bu.out e.symm)).trans (Q.out j b));clear b7 k7;refine wp_region_F (S:=fun X=>X.cell? ⟨wb,6,none⟩=some (.slice (some ⟨f,0,none⟩) p.cores.length ab)) (R:=fun X=>X.cell? ⟨d,i,none⟩=some (.int .i64 y)) [10] (by kernel_rfl) c6 a4 (fun a7 a6=>?_);have C:=hid a7;have B:=hid a6;clear a7 a6 c6;refine tF 0 (.pointer (some ⟨wb,0,none⟩)) rfl C (fun _=>B.out) ?_;simp only[jj];refine tF 1 (.pointer (some ⟨wb,0,none⟩)) rfl C (fun _=>B.out) ?_;simp only[jj];refine tF 2 (.pointer (some ⟨wb,6,none⟩)) rfl C (fun _=>B.out) ?_;simp only[jj];refine tG 3 (.slice (some ⟨f,0,none⟩) p.cores.length ab) rfl C (fun _=>B.out) ?_;simp only[jj];refine tF 4 (.int .i64 c) rfl C (fun _=>B.out) ?_;simp only[jj];refine tF 5 (.slice (some ⟨d,0,none⟩) l.length q) rfl C (fun _=>B.out) ?_;simp only[jj];refine tF 6 (.int .i64 i) rfl C (fun _=>B.out) ?_;simp only[jj];refine tF 7 (.pointer (some ⟨d,i,none⟩)) rfl C (fun _=>B.out) ?_;simp only[jj];refine wpAnyF_takeR (i:=8) (v:=.int .i64 y) rfl (by kernel_rfl) (by kernel_rfl) (by kernel_rfl) (by kernel_rfl) (by kernel_rfl) (by kernel_rfl) (fun _ _ _ h=>h) (Or.inl ⟨by rfl,fun W h=>by have h3:=h.2;clear h;go_simp⟩) C (fun _=>B.out) ?_;simp only[jj];refine tF 9 (.pointer (some ⟨f,c,none⟩)) rfl C (fun _=>B.out) ?_;simp only[jj];refine r1 10 rfl (fun K s=>?_);go_simp
      refine s _ _ S7 (notClean (by kernel_rfl)) (fun _ _=>?_);clear s K
      try simp only[Act.put]
      refine wpAnyF_done (by kernel_rfl) ?_ _;generalize World.drew (World.setCell _ _ _)=a at*;clear C B S7 x6 f6 P;go_upto_region 14 with fail
      have bT:=hid (show V 7=.slice (some ⟨t,0,none⟩) (p).ready.length (p).ready.length from J);have ad:=B7.o.ready;have aF:ListT a tg 9 13 22 3 1 (p).ready.length (.slice (some ⟨t,0,none⟩) (p).ready.length (p).ready.length) (ci (p).ready):=by rw[←J.out];exact ad
      have aR:=hid (fun X (h:Below a.heap.size a X)=>show X.frozen? ⟨t,n,none⟩=false from (aF.kp (T:=fun _=>False) (.of_below h) (fun _ _=>rfl) (fun _ _ e=>e)).fr n);have KS:=hid (fun X (h:Below a.heap.size a X)=>show X.cell? ⟨wb,7,none⟩=some (.slice (some ⟨t,0,none⟩) (p).ready.length (p).ready.length) by rw[af (B7.below h).r (k:=7) rfl,J.out]);obtain⟨u1,aJ, -⟩:=aF.at aH.out;have KR:=hid (fun X (h:Below a.heap.size a X)=>show X.cell? ⟨t,n,none⟩=some u1 from (h.cell (al _ _ aJ)).trans aJ);have aQ:=hid (fun X v (zz:List Int) (h:Below a.heap.size a X) (G:X.ownsRow a.heap.size 3 1 v zz.length (ints zz))=>show BoxT (X.setCell ⟨t,n,none⟩ v) wb (tagN tg a.heap.size (13+3*n)) V {p with cores:=(p).cores.set c y,ready:=(p).ready.set n zz}∧Kt tg (tagN tg a.heap.size (13+3*n)) E (X.setCell ⟨t,n,none⟩ v) from by
       obtain⟨bM,bb⟩:=aF.put (tag':=tagN tg a.heap.size (13+3*n)) (w1:=X) (u:=v) (c:=(zz.length,ints zz)) (j:=n) aH (fun j=>by omega) (.of_below h) (fun k hk=>cW hk) ⟨G.mono (bI _),fun k e=>by
        unfold tagN;rw[ae (by have:=(G.lt k e).1;omega)]⟩
       refine⟨B7.ready bb (fun k hk=>cW hk) ?_,K7.trans (Kt.of (tag':=tagN tg a.heap.size (13+3*n)) bb (fun k e=>by rcases e with e|⟨j,e⟩<;>omega) (fun k hk=>cW hk))⟩;rw[ar,J.out,ci_set _ _ aH];exact bM)
      clear ad aF aJ;obtain⟨q1,aL⟩:∃q1,(if q=i+1 then (some ⟨d,0,none⟩:Option Addr) else some ⟨d,i+1,none⟩)=q1:=⟨_,rfl⟩
      have P:Hid (Below a.heap.size a a.drew):=hid (aA a 1);have bX:¬(q<i):=by have:=aT.out;omega
      have bY:¬((l.length:Int)<(i:Int)+1):=by omega
      have bZ:(0:Int)≤(i:Int)+1:=by omega
      have cv:((i:Int)+1).toNat=i+1:=by omega
      refine wp_region_held_drew (S:=fun X=>X.cell? ⟨wb,7,none⟩=some (.slice (some ⟨t,0,none⟩) (p).ready.length (p).ready.length)) (by kernel_rfl) (KS.out _ P) (fun a5=>?_);have g:=hid a5;clear a5;refine tk 0 (.pointer (some ⟨wb,0,none⟩)) rfl g ?_;simp only[jj];refine tk 1 (.pointer (some ⟨wb,0,none⟩)) rfl g ?_;simp only[jj];refine tk 2 (.pointer (some ⟨wb,7,none⟩)) rfl g ?_;simp only[jj];refine dV 3 (.slice (some ⟨t,0,none⟩) (p).ready.length (p).ready.length) rfl (Or.inl ⟨by rfl,fun W h=>by have h3:=h;clear h;go_simp⟩) g ?_;simp only[jj];refine tk 4 (.int .i64 c) rfl g ?_;simp only[jj];refine dV 5 (.int .i64 (c*4)) rfl (Or.inl ⟨by rfl,fun W h=>by clear h;go_simp;exact cw _ (by omega) (by omega)⟩) g ?_;simp only[jj];refine tk 6 (.int .i64 j) rfl g ?_;simp only[jj];refine dV 7 (.int .i64 n) rfl (Or.inl ⟨by rfl,fun W h=>by clear h;go_simp;exact cw _ (by omega) (by omega)⟩) g ?_;simp only[jj];refine tk 9 (.slice (some ⟨d,0,none⟩) l.length q) rfl g ?_;simp only[jj];refine tk 10 (.int .i64 i) rfl g ?_;simp only[jj];refine tk 11 (.slice (some ⟨d,0,none⟩) i q) rfl g ?_;simp only[jj];refine tk 13 (.slice (some ⟨d,0,none⟩) l.length q) rfl g ?_;simp only[jj];refine tk 14 (.int .i64 i) rfl g ?_;simp only[jj];refine dV 15 (.int .i64 ((i:Int)+1)) rfl (Or.inl ⟨by rfl,fun W h=>by clear h;go_simp;exact cw _ (by omega) (by omega)⟩) g ?_;simp only[jj];refine tk 16 (.slice q1 (l.length - (i+1)) (q - (i+1))) rfl g ?_;simp only[jj];have M:=hid (show (l.take i).length=i by rw[bL];omega);have an:=hid (show (l.drop (i+1)).length=l.length - (i+1) by rw[dL]);obtain⟨o1,bK,a9⟩:∃o1,q1=some ⟨d,o1,none⟩∧∀j (b:j<(l.drop (i+1)).length),a.cell? ⟨d,o1+j,none⟩=some (.int .i64 (l.drop (i+1))[j]):=by
       by_cases a8:q=i+1
       ·exact⟨0,by rw[←aL,ag a8],fun j b=>by have:=aT.out;rw[an.out] at b;omega⟩
       ·exact⟨i+1,by rw[←aL,ae a8],fun j b=>by
         rw[List.getElem_drop];exact C7 (i+1+j) (by rw[an.out] at b;omega)⟩
      have aU:=hid a9;have bo:=hid (show IntsIn a (.slice (some ⟨d,0,none⟩) i q) (l.take i) from⟨some ⟨d,0,none⟩,d,0,q,by rw[M.out],fun _=>rfl,fun j b=>by
       rw[List.getElem_take,aC];exact C7 j (by rw[M.out] at b;omega)⟩)
      subst bK;clear aL a9;have E8:=hid (show (a.alloc (.cells #[] 3)).drew.ownsRow a.heap.size 3 1 (.slice (some ⟨a.heap.size,0,none⟩) 0 0) 0 [] from (de a #[] 0 (au _) (bI _) (by simp)));have ax:=hid (show Below a.heap.size a (a.alloc (.cells #[] 3)).drew from (bal (aj _ a) (.cells #[] 3)).drew);refine wpAnyH_ready (rs:=[8]) (by kernel_rfl) (by simp) (AllReadyH.cons rfl (fun K s=>?_) AllReadyH.nil);go_simp
      refine s _ _ (KS.out _ ax) (fun _=>?_);clear s K
      try simp only[Act.put,jD,jE,jF]
      generalize World.drew (World.alloc _ _)=X5 at*;obtain⟨q2,c2,Z,N,G,hb, -⟩:=app_copy E8 ax.size (bo.below ax) (by rw[M.out];have:=az.out;omega);have aW:=hid G;rw[M.out] at N;have aZ:=hid N;have ay:=hid (show Below a.heap.size a Z from ax.trans hb);clear N G hb g;refine wpAnyH_ready (rs:=[12]) (by kernel_rfl) (by simp) (AllReadyH.cons rfl (fun K s=>?_) AllReadyH.nil);refine wp_app1 _ _ 22 rfl (.slice (some ⟨a.heap.size,0,none⟩) 0 0) (.slice (some ⟨d,0,none⟩) i q) (.slice q2 i c2) rfl rfl aZ ?_;refine s _ _ (KS.out _ ay) (fun _=>?_);clear s K;simp only[jj];obtain⟨q3,c3,Z2,N,G,hb⟩:=app_more (c:=q - (i+1)) aW ay.size (by rw[M.out];have:=az.out;omega) (ys:=l.drop (i+1)) (by rw[an.out];have:=az.out;omega) (fun j b=>(ay.cell (al _ _ (aU.out j b))).trans (aU.out j b));rw[M.out,an.out] at N;have a0:=hid N;rw[M.out,an.out] at G;have aX:=hid G;have ai:=hid (show Below a.heap.size a Z2 from ay.trans hb);clear N G hb aZ aW;refine wpAnyH_ready (rs:=[17]) (by kernel_rfl) (by simp) (AllReadyH.cons rfl (fun K s=>?_) AllReadyH.nil);refine wp_app1 _ _ 22 rfl (.slice q2 i c2) (.slice (some ⟨d,o1,none⟩) (l.length - (i+1)) (q - (i+1))) (.slice q3 (i+(l.length - (i+1))) c3) rfl rfl a0 ?_;refine s _ _ (KS.out _ ai) (fun _=>?_);clear s K;simp only[jj];refine tk 18 (.pointer (some ⟨t,n,none⟩)) rfl (KS.out _ ai) ?_;simp only[jj];have bF:=KR.out _ ai;have bG:=aR.out _ ai;obtain⟨aK,ba⟩:=aQ.out Z2 _ _ ai aX;have B9:=hid aK;have K9:=hid ba;have S9:=hid (show (Z2.setCell ⟨t,n,none⟩ (.slice q3 (i+(l.length - (i+1))) c3)).cell? ⟨wb,7,none⟩=some (.slice (some ⟨t,0,none⟩) (p).ready.length (p).ready.length) by rw[af aK.r (k:=7) rfl,J.out]);clear aK ba;refine wpAnyH_ready (rs:=[19]) (by kernel_rfl) (by simp) (AllReadyH.cons rfl (fun K s=>?_) AllReadyH.nil);go_simp
      refine s _ _ S9 (fun _=>?_);clear s K
      try simp only[Act.put]
      refine dC (by kernel_rfl) ?_ _;generalize World.setCell _ _ _=Z9 at*;clear KS KR aR aQ S9 bF bG a0 aX E8;go_wp2_with fail
      exact aq (aN rfl _ _ _) rfl ⟨rfl,_,by rw[a3.out,a2.out];exact B9,ao.trans K9⟩
     ·have bS:(z==m)=false:=by simpa using bj
      rw[bS] at U;go_upto_region 12 with fail
      go_quiet (first|(go_at_call 80;refine Calls.quiet_of (aD.out _ (am.below (aA wr _)))))
      have bs:=hid (show Below wo.heap.size wo (wr.drewN nq)∧∀j (b:j<l.length),j<i+1→dmB (p) m l[j]=false from⟨btr BI (bc (aj wr.heap.size wr) nq),fun j b h=>by
       by_cases e:j=i
       ·subst e;rw[HY.out];exact U
       ·exact HN j b (by omega)⟩)
      clear ck c3 aM Q;generalize World.drewN _ _=A at*;go_wp2_with fail
      exact⟨⟨i+1,by omega,by go_num,bs⟩,by simp[intOf];omega⟩
    ·obtain rfl:i=l.length:=by omega
     have cd:¬((l.length:Int)<(l.length:Int)):=by omega
     have aE:=hid (show ixP (dmB (p) m) l= -1 by
      unfold ixP;rw[ae];intro h;have F:=dY (w:=h);have h3:=HN.out _ h h;rw[h3] at F
      cases F)
     have HR:=hid (show Below E.heap.size E wr∧rnx (p) m c 4=rnx (p) m c j from⟨btr I BI,by rw[aI.out,ae (by rw[aE.out];decide)]⟩);go_wp2_with fail
     exact⟨⟨j,(j:Int) - 1,by omega,hid rfl,by go_num,HR⟩,by simp[intOf]⟩
  ·have cx:¬(0≤x):=h0;obtain rfl:k=0:=by have:=HX.out;omega
   have HR:=hid (show rnx (p) m c 4=p by rw[HV.out];rfl);clear HX HV h0;go_wp2_with fail
   exact aY (aN rfl _ _ _) rfl ⟨rfl,tg,by rw[a3.out,HR.out];exact D.below I,ao.trans (.below I)⟩
theorem settled_stay (wb:Nat) (tag:Nat→Nat) (V:Nat→Value) (p:PW) (c t:Nat) (W:World) (bt:BoxT W wb tag V p) (d:p.Fits) (e:Snd p) (n:c<p.cores.length) (w:t<p.kinds.length) (f:p.cores.getD c (-1)=t) (a:dmB p (tnV p) t=true):
  Calls Tryz.prog 44 #[.pointer (some ⟨wb,0,none⟩),.int .i64 c] W fun r W'=>r=.returned (.tuple #[])∧∃tag',BoxT W' wb tag' V (rlP p c)∧Kt tag tag' W W':=by
 have L:(p.cores.length:Int)≤1000:=by have:=d.cores;omega
 have I:(c:Int)<(p.cores.length:Int):=by omega
 have J:(c:Int)≤1000:=by omega
 obtain⟨b,u,e6⟩:=bt.o.cores.form (by omega);have s:=hid e6;obtain⟨m,q⟩:∃m,tnV p=m:=⟨_,rfl⟩
 have x:t<p.tasks.length:=by rw[e.lf.tasks];exact w
 have N:(t:Int)<(p.tasks.length:Int):=by omega
 have K:(p.tasks.length:Int)≤1000:=by have:=d.tasks;omega
 obtain⟨H,G,l⟩:=bt.o.tasks.form (by omega);have C:=hid (show 0≤p.time∧p.time≤1000000 by have h:=e.tm;unfold within at h;simpa using h);have j:=hid (fun Y (h:BoxT Y wb tag V p)=>turn_quiet wb tag V p Y h d e.lf.d1 C);rw[q] at j;have c6:W.cell? ⟨wb,6,none⟩=some (.slice (some ⟨b,0,none⟩) p.cores.length u):=by rw[af bt.r (k:=6) rfl,e6]
 have z:W.cell? ⟨b,c,none⟩=some (.int .i64 t):=by rw[(bt.coresAt e6 n).1,f]
 have F:W.cell? ⟨wb,3,none⟩=some (.slice (some ⟨H,0,none⟩) p.tasks.length G):=by rw[af bt.r (k:=3) rfl,l]
 have y:=bt.taskAt l x (show 19<20 by omega);have M:(0:Int)≤(t:Int):=by omega
 have g:=hid bt;have B:=hid (show rlP p c=p by unfold rlP;rw[f,ae (by omega),a,ag rfl]);rw[q] at a;unfold dmB at a;rw[ah] at a;have v:=eq_of_beq a;rw[v] at y;have A:=hid n;have D:=hid f;clear bt d e n f q e6 l a v x w;go_enter Tryz.func44,Tryz.ntmps44
 go_upto_region 1 with fail
 go_quiet (first|(go_at_call 80;refine Calls.quiet_of (j.out _ (g.below (aA W _)))))
 have i:=hid (g.below (bc (aj W.heap.size W) nq));have E:=hid (show Kt tag tag W (W.drewN nq) from .below (bc (aj W.heap.size W) nq));clear g c6 z F y j;generalize World.drewN _ _=w1 at*;have c6:w1.cell? ⟨wb,6,none⟩=some (.slice (some ⟨b,0,none⟩) p.cores.length u):=by rw[af i.r (k:=6) rfl,s.out]
 have z:w1.cell? ⟨b,c,none⟩=some (.int .i64 t):=by rw[(i.coresAt s A).1,D.out]
 go_wp2_with fail
 exact aq (aN rfl _ _ _) rfl ⟨rfl,tag,by rw[B.out];exact i,E.out⟩
theorem settled_out (wb:Nat) (tag:Nat→Nat) (V:Nat→Value) (p:PW) (c t:Nat) (W:World) (bt:BoxT W wb tag V p) (A:p.Fits) (J:∀l∈p.ready,l.length≤50) (N:Snd p) (hc:c<p.cores.length) (ht:t<p.kinds.length) (hk:p.kinds[t]=6) (hz:p.cores.getD c (-1)=t) (ao:dmB p (tnV p) t=false):
  Calls Tryz.prog 44 #[.pointer (some ⟨wb,0,none⟩),.int .i64 c] W fun r W'=>r=.returned (.tuple #[])∧∃tag',BoxT W' wb tag' V (rlP p c)∧Kt tag tag' W W':=by
 have cH:(p.cores.length:Int)≤1000:=by have:=A.cores;omega
 have cv:(c:Int)<(p.cores.length:Int):=by omega
 have cx:(c:Int)≤1000:=by omega
 obtain⟨g,P,e6⟩:=bt.o.cores.form (by omega);have E6:=hid e6;obtain⟨m,hm⟩:∃m,tnV p=m:=⟨_,rfl⟩
 have a0:t<p.tasks.length:=by rw[N.lf.tasks];exact ht
 have cM:(t:Int)<(p.tasks.length:Int):=by omega
 have cE:(p.tasks.length:Int)≤1000:=by have:=A.tasks;omega
 obtain⟨g3,aU,e3⟩:=bt.o.tasks.form (by omega);have aJ:=hid (show 0≤p.time∧p.time≤1000000 by have h:=N.tm;unfold within at h;simpa using h);have O:=hid (fun Y (h:BoxT Y wb tag V p)=>turn_quiet wb tag V p Y h A N.lf.d1 aJ);rw[hm] at O;have c6:W.cell? ⟨wb,6,none⟩=some (.slice (some ⟨g,0,none⟩) p.cores.length P):=by rw[af bt.r (k:=6) rfl,e6]
 have x6:W.cell? ⟨g,c,none⟩=some (.int .i64 t):=by rw[(bt.coresAt e6 hc).1,hz]
 have c3:W.cell? ⟨wb,3,none⟩=some (.slice (some ⟨g3,0,none⟩) p.tasks.length aU):=by rw[af bt.r (k:=3) rfl,e3]
 have av:=bt.taskAt e3 a0 (show 19<20 by omega);have cL:(0:Int)≤(t:Int):=by omega
 have B0:=hid bt;obtain⟨r1,r2,r3,r4⟩:=rdN_eq N ht hk;obtain⟨q,F⟩:∃q,wnP {p with cores:=p.cores.set c (-1)} t (rdN p t)=q:=⟨_,rfl⟩
 have bh:=hid (show rlP p c=rnx q m c 4 by unfold rlP;rw[hz,ae (by omega),ao,ae (by decide),ah,hm,F]);rw[hm] at ao;unfold dmB at ao;rw[ah] at ao;have bV:¬(p.tasks.getD t bl 19=m):=by simpa using ao
 generalize p.tasks.getD t bl 19=z at av bV ao;have bD:=hid hc;have aX:({p with cores:=p.cores.set c (-1)}:PW).Fits:=⟨A.ram,A.kinds,A.slots,A.tasks,A.lines,A.line,A.bits,by show (p.cores.set c (-1)).length≤1000;rw[ar];exact A.cores,A.ready,A.next,A.tlbs,A.doms⟩;have aT:=hid (fun X (h:BoxT X wb tag V {p with cores:=p.cores.set c (-1)})=>woken_ref wb tag V {p with cores:=p.cores.set c (-1)} t (rdN p t) X h aX a0 r1 r3 r4 r2);rw[F] at aT;have aQ:=hid (show q.tasks.length=p.tasks.length by rw[←F];show ((({p with cores:=p.cores.set c (-1)}:PW).task t 9 1).task t 14 (-1)).tasks.length=_;rw[ap,ap]);have aP:=hid (show q.ready.length=p.ready.length by rw[←F];show (p.ready.set _ _).length=_;rw[ar]);have ai:=hid (show q.cores.length=p.cores.length by rw[←F];show (p.cores.set _ _).length=_;rw[ar]);have bO:=hid (show tnV q=m by rw[←F];exact hm);have bJ:=hid (show q.cores.getD c (-1)= -1 by rw[←F];show (p.cores.set c (-1)).getD c (-1)= -1;rw[aa,cQ hc];rfl);have aG:=hid (show q.Fits by rw[←F];exact wn_fitsP aX J t (rdN p t));have bN:=hid (show c*4+4≤q.ready.length by rw[aP.out,N.lf.ready];omega);have bE:=hid (show 1≤q.doms.length by rw[←F];exact N.lf.d1);have aJ:=hid (show 0≤q.time∧q.time≤1000000 by rw[←F];exact aJ);have aM:=hid (show V 6=.slice (some ⟨g,0,none⟩) q.cores.length P by rw[ai.out];exact e6);have a7:=hid (show c<q.cores.length by rw[ai.out];exact hc);obtain⟨C,eR⟩:=bt.o.ready.form;have ER:=hid (show V 7=.slice (some ⟨C,0,none⟩) q.ready.length q.ready.length by rw[aP.out];exact eR);have cI:(q.ready.length:Int)≤1000:=by have:=aG.ready;omega
 have cF:(q.tasks.length:Int)≤1000:=by have:=aG.tasks;omega
 have a3:=hid (show V 3=.slice (some ⟨g3,0,none⟩) q.tasks.length aU by rw[aQ.out];exact e3);have bG:=hid (fun (n:Nat) (J:n<q.ready.length)=>show (q.ready.getD n []).length≤1000 by rw[aa,ac J];exact aG.next _ (aw J));have bf:=hid (show ∀l∈q.ready,∀z∈l,0≤z∧z<(q.tasks.length:Int) by
  rw[aQ.out, ←F];intro l hl z E;have bW:l∈p.ready.set (rdN p t) (p.ready.getD (rdN p t) []++[(t:Int)]):=hl;rcases bj bW with f|rfl
  ·exact rd_in N l f z E
  ·rcases dA.1 E with f|f
   ·rw[aa] at f
    cases e:p.ready[rdN p t]? with
    |none=>rw[e] at f;cases f
    |some y=>
     rw[e,aS] at f;exact rd_in N y (dM e) z f
   ·rw[cg] at f;omega)
 have bR:=hid (fun (n:Nat) (J:n<q.ready.length)=>show ∀z∈q.ready.getD n [],0≤z∧z<(q.tasks.length:Int) by rw[aa,ac J];exact bf _ (aw J));clear bt A N hc hz hm e6 e3 a0 ht hk J r1 r2 r3 r4 aX eR F aQ aP ai bf;go_enter Tryz.func44,Tryz.ntmps44
 go_upto_region 1 with fail
 go_quiet (first|(go_at_call 80;refine Calls.quiet_of (O.out _ (B0.below (aA W _)))))
 have B1:=hid (B0.below (bc (aj W.heap.size W) nq));have K1:=hid (show Kt tag tag W (W.drewN nq) from .below (bc (aj W.heap.size W) nq));clear B0 c6 x6 c3 av O;generalize World.drewN _ _=w1 at*;have c6:w1.cell? ⟨wb,6,none⟩=some (.slice (some ⟨g,0,none⟩) p.cores.length P):=by rw[af B1.r (k:=6) rfl,E6.out]
 obtain⟨x6,f6⟩:=B1.coresAt E6 bD;obtain⟨b2,k2⟩:=B1.coresCell E6 c (-1);have B5:=hid b2;have K5:=hid (K1.trans k2);clear b2 k2;go_upto_region 3 with fail
 generalize World.setCell _ _ _=w2 at*;clear c6 x6 f6 B1 K1;go_wp2_with fail
 refine (aT.out _ B5).mono ?_;rintro r w3 ⟨rfl,tg,E,f⟩;have Q:=hid E;have bk:=hid (K5.trans f);clear E f aT B5 K5;generalize bU:w3=L at*;clear bU;have O:=hid (fun Y (h:BoxT Y wb tg V (q))=>turn_quiet wb tg V (q) Y h aG bE aJ);rw[bO.out] at O;have c6:L.cell? ⟨wb,6,none⟩=some (.slice (some ⟨g,0,none⟩) p.cores.length P):=by rw[af Q.r (k:=6) rfl,E6.out]
 have x6:L.cell? ⟨g,c,none⟩=some (.int .i64 (-1)):=by rw[(Q.coresAt aM a7).1,bJ.out]
 go_wp2_with fail
 clear c6 x6
 go_loopw [5] (fun i wr=>∃(k:Nat) (x:Int),k≤4∧Hid (x=(k:Int) - 1)∧i=.int .i64 x∧Hid (Below L.heap.size L wr∧rnx (q) m c 4=rnx (q) m c k)) (fun i _=>(intOf i+1).toNat)
 case atStart=>exact⟨4,3,by omega,hid rfl,rfl,hid ⟨aj _ _,rfl⟩⟩
 case round=>
  obtain⟨k,x,hk,HX,rfl,HH⟩:=hrel;have U:=hid HH.1;have HV:=hid HH.2;clear HH;by_cases h0:0≤x
  ·obtain⟨j,rfl⟩:∃j:Nat,x=j:=⟨x.toNat,by omega⟩
   obtain rfl:k=j+1:=by have:=HX.out;omega
   obtain⟨n,J⟩:∃n:Nat,c*4+j=n:=⟨_,rfl⟩
   have cB:(c:Int)*4+(j:Int)=(n:Int):=by omega
   have aD:n<(q).ready.length:=by have:=bN.out;omega
   have cK:(n:Int)<((q).ready.length:Int):=by omega
   have aO:=hid aD;have aR:=hid (show rnx (q) m c 4=if 0≤ixP (dmB (q) m) ((q).ready.getD n []) then {q with cores:=(q).cores.set c (((q).ready.getD n []).getD (ixP (dmB (q) m) ((q).ready.getD n [])).toNat 0),ready:=(q).ready.set n (((q).ready.getD n []).take (ixP (dmB (q) m) ((q).ready.getD n [])).toNat++((q).ready.getD n []).drop ((ixP (dmB (q) m) ((q).ready.getD n [])).toNat+1))} else rnx (q) m c j by rw[HV.out, ←J];rfl);have an:=(Q.below U).o.ready;rw[ER.out] at an;obtain⟨u,cu,hu⟩:=an.at aD;unfold ci at hu;have bQ:=hid hu.2;have bA:=dm hu.1;obtain⟨qu,d,B,rfl,bz⟩:=hu.shape;have bP:=hid bA;have c7:wr.cell? ⟨wb,7,none⟩=some (.slice (some ⟨C,0,none⟩) (q).ready.length (q).ready.length):=by rw[af (Q.below U).r (k:=7) rfl,ER.out]
   have cD:(j:Int)≤3:=by omega
   have aH:=hid (bG.out n aD);have bH:=hid (bR.out n aD);have HQ:=hid bz;have a6:=hid (show ((q).ready.getD n []).length≤B by
    rcases hu.1.2 with ⟨E,f⟩|⟨_,_,_,E,_,_,f,_⟩
    ·simp only at f;omega
    ·cases E;exact f)
   generalize bX:(q).ready.getD n []=l at*;have cG:(l.length:Int)≤1000:=by have:=aH.out;omega
   clear hu bz bA an aD J bX;generalize wr=wo at*;go_wp2_with fail
   clear c7 cu
   go_loopw [7] (fun i wr=>∃(i':Nat),i'≤l.length∧i=.int .i64 i'∧Hid (Below wo.heap.size wo wr∧∀j (b:j<l.length),j<i'→dmB (q) m l[j]=false)) (fun i _=>l.length - (intOf i).toNat)
   case atStart=>exact⟨0,by omega,rfl,hid ⟨aj _ _,fun j _ h=>by omega⟩⟩
   case round=>
    obtain⟨i,hi,rfl,HH⟩:=hrel;have BI:=hid HH.1;have HN:=hid HH.2;clear HH;by_cases aB:i<l.length
    ·have cJ:(i:Int)<(l.length:Int):=by omega
     have cd:=HQ.out (by omega);subst cd;have ay:=hid ((Q.below U).below BI);have ad:=hid (show ∀j (b:j<l.length),wr.cell? ⟨d,j,none⟩=some (.int .i64 l[j]) from fun j b=>by
      obtain⟨q2,b2,o2,ct,e2,cc,cp⟩:=bP.below BI
      cases e2
      have h3:=cc (by omega)
      cases h3
      have:=cp j b;rw[aC] at this;exact this)
     have aI:=hid (bH.out _ (aw aB));have ck:=ad.out i aB;obtain⟨y,hy⟩:∃y,l[i]=y:=⟨_,rfl⟩
     rw[hy] at ck aI;have HY:=hid hy;clear hy;obtain⟨y',cj⟩:∃y':Nat,y=y':=⟨y.toNat,by have:=aI.1;omega⟩
     subst cj;have cm:(y':Int)<((q).tasks.length:Int):=aI.2;have c3:wr.cell? ⟨wb,3,none⟩=some (.slice (some ⟨g3,0,none⟩) (q).tasks.length aU):=by rw[af ay.r (k:=3) rfl,a3.out]
     have av:=ay.taskAt a3 (i:=y') (by omega) (show 19<20 by omega);have am:=hid (show dmB (q) m y'=((q).tasks.getD y' bl 19==m) by unfold dmB;rw[ah]);generalize (q).tasks.getD y' bl 19=z at av am;by_cases bC:z=m
     ·subst bC;rw[beq_self_eq_true] at am;have aK:=hid (show ixP (dmB (q) z) l=i by
       have E:l.findIdx (dmB (q) z)=i:=by
        rw[List.findIdx_eq aB];exact⟨by rw[HY.out];exact am,fun j b=>HN.out j (by omega) b⟩
       unfold ixP;rw[E,ag aB])
      have bg:=hid (show rnx (q) z c 4={q with cores:=(q).cores.set c y',ready:=(q).ready.set n (l.take i++l.drop (i+1))} by
       rw[aR.out,aK.out,ag (by omega),ah,aa (l:=l),ac aB,aS,HY.out])
      go_upto_region 12 with fail
      go_quiet (first|(go_at_call 80;refine Calls.quiet_of (O.out _ (ay.below (aA wr _)))))
      have BY:=hid (ay.below (bc (aj wr.heap.size wr) nq));have KY:=hid (show Kt tg tg L (wr.drewN nq) from .below (btr (btr U BI) (bc (aj wr.heap.size wr) nq)));have bn:(wr.drewN nq).cell? ⟨d,i,none⟩=some (.int .i64 y'):=ck;have a2:=hid (show ∀j (b:j<l.length),(wr.drewN nq).cell? ⟨d,j,none⟩=some (.int .i64 l[j]) from fun j b=>ad.out j b);clear ck c3 av ad;have ad:=a2;generalize World.drewN _ _=G at*;have bM:=hid (show d≠g from fun e=>by
       have E:=bQ.out d rfl;have f:=Q.o.cores;rw[E6.out] at f;have h3:=f.2 g rfl;rw[e] at E;omega)
      clear O a2 aK aR HN;obtain⟨y,bB⟩:∃y:Int,(y':Int)=y:=⟨_,rfl⟩
      rw[bB] at bn bg;clear bB HY aI cm am;go_upto_region 13 with fail
      have c6:G.cell? ⟨wb,6,none⟩=some (.slice (some ⟨g,0,none⟩) p.cores.length P):=by rw[af BY.r (k:=6) rfl,E6.out]
      have BD:Hid (Below G.heap.size G G.drew):=hid (aA G 1);obtain⟨x6,f6⟩:=(BY.below BD).coresAt aM a7;obtain⟨b7,k7⟩:=(BY.below BD).coresCell aM c y;have B7:=hid (show BoxT (G.setCell ⟨g,c,none⟩ (.int .i64 y)).drew wb tg V {q with cores:=(q).cores.set c y} from b7);have K7:=hid (show Kt tg tg L (G.setCell ⟨g,c,none⟩ (.int .i64 y)).drew from (KY.trans (.below BD)).trans k7);have S7:=hid (show (G.setCell ⟨g,c,none⟩ (.int .i64 y)).drew.cell? ⟨wb,6,none⟩=some (.slice (some ⟨g,0,none⟩) p.cores.length P) by rw[af B7.r (k:=6) rfl,E6.out]);have C7:=hid (show ∀j (b:j<l.length),(G.setCell ⟨g,c,none⟩ (.int .i64 y)).drew.cell? ⟨d,j,none⟩=some (.int .i64 l[j]) from fun j b=>(World.cell?_setCell_far G ⟨g,c,none⟩ ⟨d,j,none⟩ _ (fun e=>bM.out e.symm)).trans (ad.out j b));clear b7 k7;refine wp_region_F (S:=fun X=>X.cell? ⟨wb,6,none⟩=some (.slice (some ⟨g,0,none⟩) p.cores.length P)) (R:=fun X=>X.cell? ⟨d,i,none⟩=some (.int .i64 y)) [10] (by kernel_rfl) c6 bn (fun bq bp=>?_);have I:=hid bq;have H:=hid bp;clear bq bp c6;refine tF 0 (.pointer (some ⟨wb,0,none⟩)) rfl I (fun _=>H.out) ?_;simp only[jj];refine tF 1 (.pointer (some ⟨wb,0,none⟩)) rfl I (fun _=>H.out) ?_;simp only[jj];refine tF 2 (.pointer (some ⟨wb,6,none⟩)) rfl I (fun _=>H.out) ?_;simp only[jj];refine tG 3 (.slice (some ⟨g,0,none⟩) p.cores.length P) rfl I (fun _=>H.out) ?_;simp only[jj];refine tF 4 (.int .i64 c) rfl I (fun _=>H.out) ?_;simp only[jj];refine tF 5 (.slice (some ⟨d,0,none⟩) l.length B) rfl I (fun _=>H.out) ?_;simp only[jj];refine tF 6 (.int .i64 i) rfl I (fun _=>H.out) ?_;simp only[jj];refine tF 7 (.pointer (some ⟨d,i,none⟩)) rfl I (fun _=>H.out) ?_;simp only[jj];refine wpAnyF_takeR (i:=8) (v:=.int .i64 y) rfl (by kernel_rfl) (by kernel_rfl) (by kernel_rfl) (by kernel_rfl) (by kernel_rfl) (by kernel_rfl) (fun _ _ _ h=>h) (Or.inl ⟨by rfl,fun W h=>by have h3:=h.2;clear h;go_simp⟩) I (fun _=>H.out) ?_;simp only[jj];refine tF 9 (.pointer (some ⟨g,c,none⟩)) rfl I (fun _=>H.out) ?_;simp only[jj];refine r1 10 rfl (fun K D=>?_);go_simp
      refine D _ _ S7 (notClean (by kernel_rfl)) (fun _ _=>?_);clear D K
      try simp only[Act.put]
      refine wpAnyF_done (by kernel_rfl) ?_ _;generalize World.drew (World.setCell _ _ _)=a at*;clear I H S7 x6 f6 BD;go_upto_region 14 with fail
      have cs:=hid (show V 7=.slice (some ⟨C,0,none⟩) (q).ready.length (q).ready.length from ER);have an:=B7.o.ready;have aL:ListT a tg 9 13 22 3 1 (q).ready.length (.slice (some ⟨C,0,none⟩) (q).ready.length (q).ready.length) (ci (q).ready):=by rw[←ER.out];exact an
      have a5:=hid (fun X (h:Below a.heap.size a X)=>show X.frozen? ⟨C,n,none⟩=false from (aL.kp (T:=fun _=>False) (.of_below h) (fun _ _=>rfl) (fun _ _ e=>e)).fr n);have KS:=hid (fun X (h:Below a.heap.size a X)=>show X.cell? ⟨wb,7,none⟩=some (.slice (some ⟨C,0,none⟩) (q).ready.length (q).ready.length) by rw[af (B7.below h).r (k:=7) rfl,ER.out]);obtain⟨u1,aV, -⟩:=aL.at aO.out;have KR:=hid (fun X (h:Below a.heap.size a X)=>show X.cell? ⟨C,n,none⟩=some u1 from (h.cell (al _ _ aV)).trans aV);have a4:=hid (fun X v (zz:List Int) (h:Below a.heap.size a X) (M:X.ownsRow a.heap.size 3 1 v zz.length (ints zz))=>show BoxT (X.setCell ⟨C,n,none⟩ v) wb (tagN tg a.heap.size (13+3*n)) V {q with cores:=(q).cores.set c y,ready:=(q).ready.set n zz}∧Kt tg (tagN tg a.heap.size (13+3*n)) L (X.setCell ⟨C,n,none⟩ v) from by
       obtain⟨bZ,bv⟩:=aL.put (tag':=tagN tg a.heap.size (13+3*n)) (w1:=X) (u:=v) (c:=(zz.length,ints zz)) (j:=n) aO (fun j=>by omega) (.of_below h) (fun k hk=>cW hk) ⟨M.mono (bI _),fun k e=>by
        unfold tagN;rw[ae (by have:=(M.lt k e).1;omega)]⟩
       refine⟨B7.ready bv (fun k hk=>cW hk) ?_,K7.trans (Kt.of (tag':=tagN tg a.heap.size (13+3*n)) bv (fun k e=>by rcases e with e|⟨j,e⟩<;>omega) (fun k hk=>cW hk))⟩;rw[ar,ER.out,ci_set _ _ aO];exact bZ)
      clear an aL aV;obtain⟨q1,aZ⟩:∃q1,(if B=i+1 then (some ⟨d,0,none⟩:Option Addr) else some ⟨d,i+1,none⟩)=q1:=⟨_,rfl⟩
      have BD:Hid (Below a.heap.size a a.drew):=hid (aA a 1);have cy:¬(B<i):=by have:=a6.out;omega
      have cz:¬((l.length:Int)<(i:Int)+1):=by omega
      have cA:(0:Int)≤(i:Int)+1:=by omega
      have cN:((i:Int)+1).toNat=i+1:=by omega
      refine wp_region_held_drew (S:=fun X=>X.cell? ⟨wb,7,none⟩=some (.slice (some ⟨C,0,none⟩) (q).ready.length (q).ready.length)) (by kernel_rfl) (KS.out _ BD) (fun bo=>?_);have s:=hid bo;clear bo;refine tk 0 (.pointer (some ⟨wb,0,none⟩)) rfl s ?_;simp only[jj];refine tk 1 (.pointer (some ⟨wb,0,none⟩)) rfl s ?_;simp only[jj];refine tk 2 (.pointer (some ⟨wb,7,none⟩)) rfl s ?_;simp only[jj];refine dV 3 (.slice (some ⟨C,0,none⟩) (q).ready.length (q).ready.length) rfl (Or.inl ⟨by rfl,fun W h=>by have h3:=h;clear h;go_simp⟩) s ?_;simp only[jj];refine tk 4 (.int .i64 c) rfl s ?_;simp only[jj];refine dV 5 (.int .i64 (c*4)) rfl (Or.inl ⟨by rfl,fun W h=>by clear h;go_simp;exact cw _ (by omega) (by omega)⟩) s ?_;simp only[jj];refine tk 6 (.int .i64 j) rfl s ?_;simp only[jj];refine dV 7 (.int .i64 n) rfl (Or.inl ⟨by rfl,fun W h=>by clear h;go_simp;exact cw _ (by omega) (by omega)⟩) s ?_;simp only[jj];refine tk 9 (.slice (some ⟨d,0,none⟩) l.length B) rfl s ?_;simp only[jj];refine tk 10 (.int .i64 i) rfl s ?_;simp only[jj];refine tk 11 (.slice (some ⟨d,0,none⟩) i B) rfl s ?_;simp only[jj];refine tk 13 (.slice (some ⟨d,0,none⟩) l.length B) rfl s ?_;simp only[jj];refine tk 14 (.int .i64 i) rfl s ?_;simp only[jj];refine dV 15 (.int .i64 ((i:Int)+1)) rfl (Or.inl ⟨by rfl,fun W h=>by clear h;go_simp;exact cw _ (by omega) (by omega)⟩) s ?_;simp only[jj];refine tk 16 (.slice q1 (l.length - (i+1)) (B - (i+1))) rfl s ?_;simp only[jj];have ab:=hid (show (l.take i).length=i by rw[bL];omega);have az:=hid (show (l.drop (i+1)).length=l.length - (i+1) by rw[dL]);obtain⟨o1,bY,bs⟩:∃o1,q1=some ⟨d,o1,none⟩∧∀j (b:j<(l.drop (i+1)).length),a.cell? ⟨d,o1+j,none⟩=some (.int .i64 (l.drop (i+1))[j]):=by
       by_cases br:B=i+1
       ·exact⟨0,by rw[←aZ,ag br],fun j b=>by have:=a6.out;rw[az.out] at b;omega⟩
       ·exact⟨i+1,by rw[←aZ,ae br],fun j b=>by
         rw[List.getElem_drop];exact C7 (i+1+j) (by rw[az.out] at b;omega)⟩
      have ai:=hid bs;have bF:=hid (show IntsIn a (.slice (some ⟨d,0,none⟩) i B) (l.take i) from⟨some ⟨d,0,none⟩,d,0,B,by rw[ab.out],fun _=>rfl,fun j b=>by
       rw[List.getElem_take,aC];exact C7 j (by rw[ab.out] at b;omega)⟩)
      subst bY;clear aZ bs;have E8:=hid (show (a.alloc (.cells #[] 3)).drew.ownsRow a.heap.size 3 1 (.slice (some ⟨a.heap.size,0,none⟩) 0 0) 0 [] from (de a #[] 0 (au _) (bI _) (by simp)));have aE:=hid (show Below a.heap.size a (a.alloc (.cells #[] 3)).drew from (bal (aj _ a) (.cells #[] 3)).drew);refine wpAnyH_ready (rs:=[8]) (by kernel_rfl) (by simp) (AllReadyH.cons rfl (fun K D=>?_) AllReadyH.nil);go_simp
      refine D _ _ (KS.out _ aE) (fun _=>?_);clear D K
      try simp only[Act.put,jD,jE,jF]
      generalize World.drew (World.alloc _ _)=X5 at*;obtain⟨q2,c2,Z,hr,M,hb, -⟩:=app_copy E8 aE.size (bF.below aE) (by rw[ab.out];have:=aH.out;omega);have a8:=hid M;rw[ab.out] at hr;have ba:=hid hr;have aF:=hid (show Below a.heap.size a Z from aE.trans hb);clear hr M hb s;refine wpAnyH_ready (rs:=[12]) (by kernel_rfl) (by simp) (AllReadyH.cons rfl (fun K D=>?_) AllReadyH.nil);refine wp_app1 _ _ 22 rfl (.slice (some ⟨a.heap.size,0,none⟩) 0 0) (.slice (some ⟨d,0,none⟩) i B) (.slice q2 i c2) rfl rfl ba ?_;refine D _ _ (KS.out _ aF) (fun _=>?_);clear D K;simp only[jj];obtain⟨q3,c3,Z2,hr,M,hb⟩:=app_more (c:=B - (i+1)) a8 aF.size (by rw[ab.out];have:=aH.out;omega) (ys:=l.drop (i+1)) (by rw[az.out];have:=aH.out;omega) (fun j b=>(aF.cell (al _ _ (ai.out j b))).trans (ai.out j b));rw[ab.out,az.out] at hr;have bb:=hid hr;rw[ab.out,az.out] at M;have a9:=hid M;have ax:=hid (show Below a.heap.size a Z2 from aF.trans hb);clear hr M hb ba a8;refine wpAnyH_ready (rs:=[17]) (by kernel_rfl) (by simp) (AllReadyH.cons rfl (fun K D=>?_) AllReadyH.nil);refine wp_app1 _ _ 22 rfl (.slice q2 i c2) (.slice (some ⟨d,o1,none⟩) (l.length - (i+1)) (B - (i+1))) (.slice q3 (i+(l.length - (i+1))) c3) rfl rfl bb ?_;refine D _ _ (KS.out _ ax) (fun _=>?_);clear D K;simp only[jj];refine tk 18 (.pointer (some ⟨C,n,none⟩)) rfl (KS.out _ ax) ?_;simp only[jj];have bS:=KR.out _ ax;have bT:=a5.out _ ax;obtain⟨aW,bu⟩:=a4.out Z2 _ _ ax a9;have B9:=hid aW;have K9:=hid bu;have S9:=hid (show (Z2.setCell ⟨C,n,none⟩ (.slice q3 (i+(l.length - (i+1))) c3)).cell? ⟨wb,7,none⟩=some (.slice (some ⟨C,0,none⟩) (q).ready.length (q).ready.length) by rw[af aW.r (k:=7) rfl,ER.out]);clear aW bu;refine wpAnyH_ready (rs:=[19]) (by kernel_rfl) (by simp) (AllReadyH.cons rfl (fun K D=>?_) AllReadyH.nil);go_simp
      refine D _ _ S9 (fun _=>?_);clear D K
      try simp only[Act.put]
      refine dC (by kernel_rfl) ?_ _;generalize World.setCell _ _ _=Z9 at*;clear KS KR a5 a4 S9 bS bT bb a9 E8;go_wp2_with fail
      exact aq (aN rfl _ _ _) rfl ⟨rfl,_,by rw[bh.out,bg.out];exact B9,bk.trans K9⟩
     ·have cq:(z==m)=false:=by simpa using bC
      rw[cq] at am;go_upto_region 12 with fail
      go_quiet (first|(go_at_call 80;refine Calls.quiet_of (O.out _ (ay.below (aA wr _)))))
      have bK:=hid (show Below wo.heap.size wo (wr.drewN nq)∧∀j (b:j<l.length),j<i+1→dmB (q) m l[j]=false from⟨btr BI (bc (aj wr.heap.size wr) nq),fun j b h=>by
       by_cases e:j=i
       ·subst e;rw[HY.out];exact am
       ·exact HN j b (by omega)⟩)
      clear ck c3 av ad;generalize World.drewN _ _=G at*;go_wp2_with fail
      exact⟨⟨i+1,by omega,by go_num,bK⟩,by simp[intOf];omega⟩
    ·obtain rfl:i=l.length:=by omega
     have cC:¬((l.length:Int)<(l.length:Int)):=by omega
     have aK:=hid (show ixP (dmB (q) m) l= -1 by
      unfold ixP;rw[ae];intro h;have f:=dY (w:=h);have h3:=HN.out _ h h;rw[h3] at f
      cases f)
     have HR:=hid (show Below L.heap.size L wr∧rnx (q) m c 4=rnx (q) m c j from⟨btr U BI,by rw[aR.out,ae (by rw[aK.out];decide)]⟩);go_wp2_with fail
     exact⟨⟨j,(j:Int) - 1,by omega,hid rfl,by go_num,HR⟩,by simp[intOf]⟩
  ·have cO:¬(0≤x):=h0;obtain rfl:k=0:=by have:=HX.out;omega
   have HR:=hid (show rnx (q) m c 4=q by rw[HV.out];rfl);clear HX HV h0;go_wp2_with fail
   exact aY (aN rfl _ _ _) rfl ⟨rfl,tg,by rw[bh.out,HR.out];exact Q.below U,bk.trans (.below U)⟩
end Go.Proofs.YtaejnmmpddbbjaaGreatDoor.Wd
