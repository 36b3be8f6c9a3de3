/- Qal -/
import Derived.Maps.AppendAt
import Derived.Deep.RegionHeld3
import Derived.BigQuiet
import Derived.Test.YtaejnmmpddbbjaaGreatDoorQak
namespace Go.Proofs.YtaejnmmpddbbjaaGreatDoor.Mmu
open Go.RowKit Mem Bw Nums
end Go.Proofs.YtaejnmmpddbbjaaGreatDoor.Mmu
namespace Go.Proofs.YtaejnmmpddbbjaaGreatDoor.Wd
open Go.RowKit Mem Bw Nums Mmu
theorem told_same {p q:PW} (a:q.ram=p.ram) (b:q.kinds=p.kinds) (e:Ent):toldB q e=toldB p e:=by
 unfold toldB isB kindAt;rw[a,b]
def fgt (p:PW):PW:={p with tlbs:=p.tlbs.map (goneP fun e=> !toldB p e)}
end Go.Proofs.YtaejnmmpddbbjaaGreatDoor.Wd
namespace Go.Proofs.YtaejnmmpddbbjaaGreatDoor.Mmu
open Go.RowKit Mem Bw Nums
theorem cellsE_snoc (l:List Ent) (q:Ent):cellsE (l++[q])=cellsE l++[.int .i64 q.1,.int .i64 q.2.1,.int .i64 q.2.2.1,.bool q.2.2.2]:=by
 unfold cellsE;rw[List.flatMap_append];rfl
theorem fourE_new (W:World) (a b c d:Value) (e:TypeId):∀(j:Nat) (x:Value),[a,b,c,d][j]? =some x→(W.alloc (.cells #[a,b,c,d] e)).cell? ((⟨W.heap.size,0,none⟩:Addr).add j)=some x:=by
 intro j x h;rw[show (⟨W.heap.size,0,none⟩:Addr).add j=⟨W.heap.size,j,none⟩ from by unfold Addr.add;split<;>simp_all,dh _ _ _ _ rfl];rw[←h];simp
end Go.Proofs.YtaejnmmpddbbjaaGreatDoor.Mmu
namespace Go.Proofs.YtaejnmmpddbbjaaGreatDoor.Wd
open Go.RowKit Mem Bw Nums Mmu
def kpE (p:PW) (k f:Int) (e:Ent):Bool:=((walkR p.ram e.1 (16*e.2.1)).2.2==0&&(walkR p.ram e.1 (16*e.2.1)).1==e.2.2.1&&(walkR p.ram e.1 (16*e.2.1)).2.1==e.2.2.2)&& !(k==4&&e.1==f)
def fwP (p:PW) (k f:Int):PW:={p with tlbs:=p.tlbs.map (List.filter (kpE p k f))}
theorem filt_take {P:Ent→Bool} {l:List Ent} {k:Nat} (h:k<l.length):(l.take (k+1)).filter P=(l.take k).filter P++(if P l[k]=true then [l[k]] else []):=by
 rw[bD h,ew];by_cases a:P l[k]=true
 ·rw[ag a,List.filter_cons_of_pos a];rfl
 ·rw[ae a,List.filter_cons_of_neg a];rfl
set_option maxRecDepth 100000
set_option maxHeartbeats 8000000
theorem forgetWrong_any (wb:Nat) (tag:Nat→Nat) (V:Nat→Value) (p:PW) (k f:Int) (W:World) (bt:BoxT W wb tag V p) (hp:p.Fits) (hl:∀l∈p.tlbs,l.length≤100) (az:∀l∈p.tlbs,∀e∈l,0≤e.2.1∧e.2.1≤255) (hw:∀z∈p.ram,0≤z∧z<65536) (ax:p.ram.length≤600):
  Calls Tryz.prog 78 #[.pointer (some ⟨wb,0,none⟩),.int .i64 k,.int .i64 f] W fun r W'=>r=.returned (.tuple #[])∧∃tag',BoxT W' wb tag' V (fwP p k f)∧Kt tag tag' W W':=by
 obtain⟨i0,hi,aA,aB,aC⟩:=info_get infoEnt;have aV:(p.tlbs.length:Int)≤1000:=by have:=hp.tlbs;omega
 obtain⟨A,e8⟩:=bt.o.tlbs.form;obtain⟨q0,g0,o0,aR,e0,aL,aP⟩:=dm bt.o.ram.1;have E8:=hid e8;have au:=hid (fun X tg q (h:BoxT X wb tg V q) (e:q.ram=p.ram)=>show RamIn X (V 0) p.ram from⟨by
  have h1:=dm h.o.ram.1;rw[e] at h1;exact h1,hw,ax⟩)
 have HL:=hid hl;have aG:=hid az;have HB:=hid bt;have E0:=hid e0;clear bt hp hl az hw ax e8 e0 aL aP;go_enter Tryz.func78,Tryz.ntmps78
 go_wp2_with fail
 go_loopw [6] (fun i wr=>∃(c:Nat),c≤p.tlbs.length∧i=.int .i64 c∧Hid (∃tg,BoxT wr wb tg V {p with tlbs:=mapK (List.filter (kpE p k f)) c p.tlbs}∧Kt tag tg W wr)) (fun i _=>p.tlbs.length - (intOf i).toNat)
 case atStart=>exact⟨0,by omega,rfl,hid ⟨tag,by rw[mapK_zero];exact HB,Kt.refl _ _⟩⟩
 case round=>
  obtain⟨c,hc,rfl,HH⟩:=hrel;obtain⟨tg,bt,kt⟩:=HH.out;have C:=hid bt;have HK:=hid kt;clear bt kt HH;have c8:wr.cell? ⟨wb,8,none⟩=some (.slice (some ⟨A,0,none⟩) p.tlbs.length p.tlbs.length):=by rw[af C.r (k:=8) rfl,E8.out]
  by_cases H:c<p.tlbs.length
  ·have aW:(c:Int)<(p.tlbs.length:Int):=by omega
   have Y:(mapK (List.filter (kpE p k f)) c p.tlbs).length=p.tlbs.length:=cV _ _ _;have LT:=hid (show TlbT wr tg p.tlbs.length (.slice (some ⟨A,0,none⟩) p.tlbs.length p.tlbs.length) (mapK (List.filter (kpE p k f)) c p.tlbs) from by
    have h:=C.o.tlbs;rw[E8.out] at h;show TlbT wr tg p.tlbs.length _ _
    rw[←Y];rw[←Y] at h;exact h)
   obtain⟨ul,cu,ai⟩:=LT.at H;have an:c<(mapK (List.filter (kpE p k f)) c p.tlbs).length:=by rw[Y];exact H
   have aq:=hid (show (mapK (List.filter (kpE p k f)) c p.tlbs).getD c []=p.tlbs[c] by
    rw[aa,ac an,aS,mapK_at _ _ _ H an])
   rw[aq.out] at ai;obtain⟨l,U⟩:∃l,p.tlbs[c]=l:=⟨_,rfl⟩
   rw[U] at ai;have aJ:l.length≤100:=by rw[←U];exact HL _ (aw H)
   have aH:=hid (show ∀e∈l,0≤e.2.1∧e.2.1≤255 by rw[←U];exact aG _ (aw H));have aU:(l.length:Int)≤100:=by omega
   obtain⟨q,gu,a4,aI,rfl,hq,ay,_⟩:=(ai.tlb aJ).1;have aE:=hid ay;have HQ:=hid hq;have CU:=hid cu;have aF:=hid U;have gk:=hid (LT.fr c);have GB:=hid LT.tag0;have W0:=hid (show wr.cell? ⟨wb,8,none⟩=some (.slice (some ⟨A,0,none⟩) p.tlbs.length p.tlbs.length) from c8);have aQ:=hid (fun X (h:Below wr.heap.size wr X) a b=>walked_any_o (V 0) p.ram a b X (au.out X tg _ (C.below h) rfl));have R0:=hid (fun X (h:Below wr.heap.size wr X)=>show X.cell? ⟨wb,0,none⟩=some (V 0) from af (C.below h).r (k:=0) rfl);clear ai ay hq cu U aq an;go_upto_region 5 with fail
   clear c8;generalize wr=w0 at*
   go_loopw [7,8] (fun v i wr=>∃(j:Nat) (m:List Ent),j≤l.length∧i=.int .i64 j∧Hid (m=(l.take j).filter (kpE p k f))∧Hid (wr.ownsRow w0.heap.size 56 4 v m.length (cellsE m))∧Hid (Below w0.heap.size w0 wr)) (fun _ i _=>l.length - (intOf i).toNat)
   case atStart=>exact⟨0,[],by omega,rfl,hid rfl,hid (cT _ _ _ _),hid (aj _ _)⟩
   case round=>
    obtain⟨j,m,hj,rfl,HM,HO,G⟩:=hrel;have hm:m.length≤100:=by
     rw[HM.out];exact aD (dG _ _) (by rw[bL];omega)
    have c8:wr.cell? ⟨wb,8,none⟩=some (.slice (some ⟨A,0,none⟩) p.tlbs.length p.tlbs.length):=(G.cell (al _ _ W0)).trans W0;have cu:wr.cell? ⟨A,c,none⟩=some (.slice q l.length aI):=(G.cell (al _ _ CU)).trans CU;by_cases am:j<l.length
    ·have aT:(j:Int)<(l.length:Int):=by omega
     have aM:=HQ.out (by omega);subst aM;obtain⟨a0,a1,a2,a3⟩:=aE.below G j am;have ad:=hid (filt_take (P:=kpE p k f) am);have ab:=hid (aH.out l[j] (aw am));generalize l[j]=e at a0 a1 a2 a3 ad ab;obtain⟨x,y,z,u⟩:=e;simp only at a0 a1 a2 a3;have b0:=a0;have b1:=a1;have b2:=a2;have b3:=a3;have D:=hid (show kpE p k f (x,y,z,u)=true→m++[(x,y,z,u)]=(l.take (j+1)).filter (kpE p k f) from fun h=>by rw[ad.out,ag h,HM.out]);have t:=hid (show kpE p k f (x,y,z,u)=false→m=(l.take (j+1)).filter (kpE p k f) from fun h=>by rw[ad.out,ae (by rw[h];decide),HM.out,dB]);have aX:0≤y:=ab.1;have aZ:y≤255:=ab.2;obtain⟨d,O⟩:∃d,d=wr.alloc (.cells #[.int .i64 x,.int .i64 y,.int .i64 z,.bool u] 56):=⟨_,rfl⟩
     have BE:=hid (show Below wr.heap.size wr d by rw[O];exact bal (aj _ wr) _);have XW:=hid (show ∀o,d.cell? ⟨wr.heap.size,o,none⟩=(#[.int .i64 x,.int .i64 y,.int .i64 z,.bool u]:Array Value)[o]? by rw[O];exact cJ wr _ _);have sW:d.heap.size=wr.heap.size+1:=by rw[O];simp
     clear a0 a1 a2 a3 ad ab;go_upto_region 8 with fail
     rw[←O];clear O b0 b1 b2 b3 c8 cu;have L:=hid (G.trans (BE.mono G.size));have d0:=XW.out 0;have d1:=XW.out 1;have r0:=R0.out _ L;have KW:=hid (fun n=>walked_any_o (V 0) p.ram x (16*y) (d.drewN n) (au.out _ tg _ ((C.below L).below (bc (aj d.heap.size d) n)) rfl));have B:=hid (show kpE p k f (x,y,z,u)=(((walkR p.ram x (16*y)).2.2==0&&(walkR p.ram x (16*y)).1==z&&(walkR p.ram x (16*y)).2.1==u)&& !(k==4&&x==f)) from rfl);generalize walkR p.ram x (16*y)=R at KW B;obtain⟨ra,rb,rn⟩:=R;simp only at KW B
     go_quiet (first|(go_at_call 81;refine dT ((KW.out _).mono fun _ _ h=>(⟨h.1,h.2.symm⟩:_∧_))))
     have J:=hid (bc (aj d.heap.size d) nq);have M:=cells_next XW (show wr.heap.size<d.heap.size by omega) J;have s:=hid (L.trans (J.mono L.size));have E:=hid (eE (eE HO BE) J);generalize World.drewN _ _=W2 at*;have k0:=M 0;have k1:=M 1;have k2:=M 2;have k3:=M 3;clear d0 d1 r0 KW M XW BE J L;by_cases F:rn=0
     rotate_left
     ·have I:(rn==0)=false:=by simpa using F
      have w:=hid (t.out (by rw[B.out,I];rfl));clear D t;go_wp2_with fail
      exact⟨⟨j+1,m,by omega,by go_num,w,E,s⟩,by simp[intOf];omega⟩
     have I:(rn==0)=true:=by simpa using F
     by_cases Q:ra=z
     rotate_left
     ·have K:(ra==z)=false:=by simpa using Q
      have w:=hid (t.out (by rw[B.out,I,K];rfl));clear D t;go_wp2_with fail
      exact⟨⟨j+1,m,by omega,by go_num,w,E,s⟩,by simp[intOf];omega⟩
     have K:(ra==z)=true:=by simpa using Q
     by_cases g:rb=u
     rotate_left
     ·have S:(rb==u)=false:=by simpa using g
      have w:=hid (t.out (by rw[B.out,I,K,S];rfl));clear D t;go_wp2_with fail
      exact⟨⟨j+1,m,by omega,by go_num,w,E,s⟩,by simp[intOf];omega⟩
     have S:(rb==u)=true:=by simpa using g
     by_cases N:k=4
     ·have ah:(k==4)=true:=by simpa using N
      by_cases hx:x=f
      ·have ap:(x==f)=true:=by simpa using hx
       have w:=hid (t.out (by rw[B.out,I,K,S,ah,ap];rfl));clear D t F Q g N hx;go_wp2_with fail
       exact⟨⟨j+1,m,by omega,by go_num,w,E,s⟩,by simp[intOf];omega⟩
      ·have ap:(x==f)=false:=by simpa using hx
       have HY:=hid (D.out (by rw[B.out,I,K,S,ah,ap];rfl));clear D t F Q g N hx;go_wp2_with (at_builtin;refine bf _ rfl _ _ 31 rfl w0.heap.size 56 i0 (.agg #[.int .i64 0,.int .i64 0,.int .i64 0,.bool false]) 4 32 Tryz.underlying31 hi aA aB aC rfl (by decide) _ _ _ rfl (E.alloc _) ⟨_,0,none⟩ 1 1 [.int .i64 x,.int .i64 y,.int .i64 z,.bool u] rfl rfl (fourE_new _ _ _ _ _ _) (fourE_cell _ _ _ _) (by unfold maxLen;omega) (by omega) (by have:=s.size;simp;omega) ?_;intro v' w5 Z T _;have B5:=hid ((bal s _).grown T (by have:=s.size;simp;omega) (fun k hk=>(E.lt k hk).1));have O5:=hid Z;clear Z T)
       refine⟨⟨j+1,m++[(x,y,z,u)],by omega,by go_num,HY,hid ?_,B5⟩,by simp[intOf];omega⟩;rw[cellsE_snoc,av];exact O5
     ·have ah:(k==4)=false:=by simpa using N
      have HY:=hid (D.out (by rw[B.out,I,K,S,ah];rfl));clear D t F Q g N;go_wp2_with (at_builtin;refine bf _ rfl _ _ 31 rfl w0.heap.size 56 i0 (.agg #[.int .i64 0,.int .i64 0,.int .i64 0,.bool false]) 4 32 Tryz.underlying31 hi aA aB aC rfl (by decide) _ _ _ rfl (E.alloc _) ⟨_,0,none⟩ 1 1 [.int .i64 x,.int .i64 y,.int .i64 z,.bool u] rfl rfl (fourE_new _ _ _ _ _ _) (fourE_cell _ _ _ _) (by unfold maxLen;omega) (by omega) (by have:=s.size;simp;omega) ?_;intro v' w5 Z T _;have B5:=hid ((bal s _).grown T (by have:=s.size;simp;omega) (fun k hk=>(E.lt k hk).1));have O5:=hid Z;clear Z T)
      refine⟨⟨j+1,m++[(x,y,z,u)],by omega,by go_num,HY,hid ?_,B5⟩,by simp[intOf];omega⟩;rw[cellsE_snoc,av];exact O5
    ·obtain rfl:j=l.length:=by omega
     have aK:¬((l.length:Int)<(l.length:Int)):=by omega
     have HF:=hid (show m=l.filter (kpE p k f) by rw[HM.out,dg]);obtain⟨qv,kv,aO⟩:=own_form HO;subst aO;have IN:=hid (show InE wr (tagN tg w0.heap.size (14+3*c)) (14+3*c) (.slice qv m.length kv) m from .inl ⟨HO.mono (bI _),fun b e=>by
      have h1:=(HO.lt b e).1;unfold tagN;rw[ae (by omega)]⟩)
     obtain⟨F,ao⟩:=LT.put H Y (.of_below G) (fun b g=>cW g) IN;have fr:wr.frozen? ⟨A,c,none⟩=false:=(G.frozen (p:=⟨A,c,none⟩) GB.2).trans gk;have J:=hid (show BoxT (wr.setCell ⟨A,c,none⟩ (.slice qv m.length kv)) wb (tagN tg w0.heap.size (14+3*c)) V {p with tlbs:=mapK (List.filter (kpE p k f)) (c+1) p.tlbs} from C.tlbs ao (fun b g=>cW g) (by
      rw[mapK_succ _ _ _ H,ar,Y,E8.out,aF.out, ←HF.out];exact F))
     have KN:=hid (show Kt tag (tagN tg w0.heap.size (14+3*c)) W (wr.setCell ⟨A,c,none⟩ (.slice qv m.length kv)) from HK.trans (.of ao (fun b e=>by rcases e with e|⟨i,e⟩<;>omega) (fun b g=>cW g)));clear F ao IN;go_wp2_with fail
     exact⟨⟨c+1,by omega,by go_num,hid ⟨_,J.out,KN.out⟩⟩,by simp[intOf];omega⟩
  ·obtain rfl:c=p.tlbs.length:=by omega
   have aK:¬((p.tlbs.length:Int)<(p.tlbs.length:Int)):=by omega
   have w:=hid (show BoxT wr wb tg V (fwP p k f) by unfold fwP;rw[←mapK_all];exact C);clear C;go_wp2_with fail
   exact aY (aN rfl _ _ _) rfl ⟨rfl,tg,w.out,HK.out⟩
set_option maxRecDepth 512
set_option maxHeartbeats 200000
structure TL (p:PW):Prop where
 len:∀l∈p.tlbs,l.length≤100
 page:∀l∈p.tlbs,∀e∈l,0≤e.2.1∧e.2.1≤255
 word:∀z∈p.ram,0≤z∧z<65536
theorem TL.of {p q:PW} (h:TL p) (e1:q.tlbs=p.tlbs) (e2:q.ram=p.ram):TL q:=⟨by rw[e1];exact h.len,by rw[e1];exact h.page,by rw[e2];exact h.word⟩
theorem TL.ut {p:PW} (h:TL p) (f:Int):TL (utP p f):=⟨h.len,h.page,fun z b=>by
 obtain⟨i,hi⟩:=List.mem_iff_getElem?.1 (show z∈p.ram.mapIdx (ut1 p.kinds f) from b);rw[List.getElem?_mapIdx] at hi
 cases e:p.ram[i]? with
 |none=>rw[e] at hi;cases hi
 |some y=>
  rw[e] at hi;have a:ut1 p.kinds f i y=z:=aK hi;unfold ut1 at a;split at a
  ·omega
  ·rw[←a];exact h.word y (dM e)⟩
theorem TL.fw {p:PW} (h:TL p) (k f:Int):TL (fwP p k f):=⟨fun l hl=>by
 obtain⟨l0,a,rfl⟩:=List.mem_map.1 (show l∈p.tlbs.map _ from hl);exact aD (dG _ _) (h.len l0 a),fun l hl e b=>by
 obtain⟨l0,a,rfl⟩:=List.mem_map.1 (show l∈p.tlbs.map _ from hl);exact h.page l0 a e (List.mem_filter.1 b).1,h.word⟩
theorem et_tl (p:PW) (t:Nat):(etP p t).tlbs=p.tlbs∧(etP p t).ram=p.ram:=by
 unfold etP;split<;>exact⟨rfl,rfl⟩
theorem ds_tl (p:PW) (f:Nat):(dsP p f).tlbs=p.tlbs∧(dsP p f).ram=p.ram:=by
 have e:=ds_rest (p.lines.getD f []) p;constructor
 ·show ((p.lines.getD f []).foldl ds1 p).tlbs=p.tlbs
  rw[e]
 ·show ((p.lines.getD f []).foldl ds1 p).ram=p.ram
  rw[e]
theorem fw_inv {p:PW} (h:Inv p) (k f:Int):Inv (fwP p k f):=⟨⟨h.fits.ram,h.fits.kinds,h.fits.slots,h.fits.tasks,h.fits.lines,h.fits.line,h.fits.bits,h.fits.cores,h.fits.ready,h.fits.next,by show (p.tlbs.map _).length≤1000;rw[bN];exact h.fits.tlbs,h.fits.doms⟩,h.k24,h.ram,h.slots,h.tasks,h.lines,h.bits,h.key,h.line,h.owes,h.ent,h.help⟩
def gnF (dr:PW→Nat→PW) (p:PW) (k:Int) (f:Nat):PW:=fwP (lsF dr p k f) k f
def drR:Nat→PW→Nat→PW
 |0,p,_=>p
 |m+1,p,s=>if (p.slots.getD s eS) 0=1∨opnd (drA p s) ((p.slots.getD s eS) 0) ((p.slots.getD s eS) 1)=true then drA p s else gnF (drR m) (drA p s) ((p.slots.getD s eS) 0) ((p.slots.getD s eS) 1).toNat
theorem da_tl {m:Nat} {dr:PW→Nat→PW} {f:Nat} (c:∀p s,nds p<m→Inv p→s<p.slots.length→(p.slots.getD s eS) 0≠0→Inv (dr p s)∧nds (dr p s)≤nds p∧(dr p s).kinds.length=p.kinds.length) (d:∀p s,nds p<m→Inv p→s<p.slots.length→(p.slots.getD s eS) 0≠0→TL p→TL (dr p s)):∀(a:Nat) (p:PW),nds p<m→Inv p→f*16+a≤p.slots.length→TL p→TL (daF dr f a p)
 |0,p,_,_,_,t=>by rw[da_zero];exact t
 |a+1,p,hn,h,hl,t=>by
  rw[da_succ];by_cases b:(p.slots.getD (f*16+a) eS) 0=0
  ·rw[ag b];exact da_tl c d a p hn h (by omega) t
  ·rw[ae b];obtain⟨e,i,g⟩:=c p (f*16+a) hn h (by omega) b;have j:(dr p (f*16+a)).slots.length=p.slots.length:=by rw[e.slots,g,h.slots]
   exact da_tl c d a (dr p (f*16+a)) (by omega) e (by omega) (d p (f*16+a) hn h (by omega) b t)
theorem ls_tl {m:Nat} {dr:PW→Nat→PW} (b:∀p s,nds p<m→Inv p→s<p.slots.length→(p.slots.getD s eS) 0≠0→Inv (dr p s)∧nds (dr p s)≤nds p∧(dr p s).kinds.length=p.kinds.length) (d:∀p s,nds p<m→Inv p→s<p.slots.length→(p.slots.getD s eS) 0≠0→TL p→TL (dr p s)) {p:PW} (h:Inv p) (t:TL p) (i:nds p<m+1) {k:Int} {f:Nat} (hk:p.kinds[f]? =some k) (c:opnd p k f=false):TL (lsF dr p k f):=by
 have tn:TL (nkP p f):=t.of rfl rfl;unfold lsF;by_cases a:k=2∨k=3
 ·rw[ag a];exact tn.ut f
 rw[ae a];by_cases e4:k=4
 ·rw[ag e4];exact tn.of rfl rfl
 rw[ae e4];by_cases e5:k=5
 ·rw[ag e5];have hi:=fg_full (nk_inv7 h hk c (by omega)) 11 (by decide) (f:Int);have e:nds (nkP p f)+1=nds p:=(cnt_set p.kinds f).2 (by rw[hk,e5]);have g:f<p.kinds.length:=(List.getElem?_eq_some_iff.1 hk).1;exact da_tl (m:=m) (f:=f) b d 16 (fgP 11 (nkP p f) f) (by show nds (nkP p f)<m;omega) hi (by show f*16+16≤p.slots.length;have:=h.slots;omega) (tn.of rfl rfl)
 rw[ae e5];by_cases e6:k=6
 ·rw[ag e6];exact tn.of (et_tl _ f).1 (et_tl _ f).2
 rw[ae e6];exact tn.of (ds_tl (nkP p f) f).1 (ds_tl (nkP p f) f).2
theorem rr_inv:∀(m:Nat),(∀p s,nds p<m→Inv p→s<p.slots.length→(p.slots.getD s eS) 0≠0→Inv (drR m p s)∧nds (drR m p s)≤nds p∧(drR m p s).kinds.length=p.kinds.length)∧(∀p s,nds p<m→Inv p→s<p.slots.length→(p.slots.getD s eS) 0≠0→TL p→TL (drR m p s))
 |0=>⟨fun p _ c=>absurd c (ex _),fun p _ c=>absurd c (ex _)⟩
 |m+1=>by
  obtain⟨i1,i2⟩:=rr_inv m;refine⟨fun p s c h i f=>?_,fun p s c h i f t=>?_⟩
  ·unfold drR;by_cases a:(p.slots.getD s eS) 0=1∨opnd (drA p s) ((p.slots.getD s eS) 0) ((p.slots.getD s eS) 1)=true
   ·rw[ag a];exact⟨drA_inv h s,au _,rfl⟩
   ·rw[ae a];obtain⟨b,d,hk, -, -⟩:=ls_in h i f (fun e=>a (.inl e));rw[d,ah];have g:opnd (drA p s) ((p.slots.getD s eS) 0) b=false:=by
     cases e:opnd (drA p s) ((p.slots.getD s eS) 0) b with
     |false=>rfl
     |true=>exact absurd (.inr (by rw[d];exact e)) a
    obtain⟨a1,j,k⟩:=ls_inv (m:=m) i1 (drA_inv h s) c hk g;exact⟨fw_inv a1 _ _,j,k⟩
  ·unfold drR;by_cases a:(p.slots.getD s eS) 0=1∨opnd (drA p s) ((p.slots.getD s eS) 0) ((p.slots.getD s eS) 1)=true
   ·rw[ag a];exact t.of rfl rfl
   ·rw[ae a];obtain⟨b,d,hk, -, -⟩:=ls_in h i f (fun e=>a (.inl e));rw[d,ah];have g:opnd (drA p s) ((p.slots.getD s eS) 0) b=false:=by
     cases e:opnd (drA p s) ((p.slots.getD s eS) 0) b with
     |false=>rfl
     |true=>exact absurd (.inr (by rw[d];exact e)) a
    exact (ls_tl (m:=m) i1 i2 (drA_inv h s) (t.of rfl rfl) c hk g).fw _ _
theorem fg_task (p:PW) (c t j:Nat) (x f:Int) (h:j≠c):(fgP c p f).task t j x=fgP c (p.task t j x) f:=by
 have e1:fg1 c f (upd (p.tasks.getD t bl) j x)=upd (fg1 c f (p.tasks.getD t bl)) j x:=by
  unfold fg1;have e2:upd (p.tasks.getD t bl) j x c=p.tasks.getD t bl c:=ae (fun e=>h e.symm);rw[e2];by_cases e:p.tasks.getD t bl c=f
  ·rw[ag e,ag e,upd_comm _ j c _ _ h]
  ·rw[ae e,ae e]
 show ({p with tasks:=(p.tasks.map (fg1 c f)).set t (upd ((p.tasks.map (fg1 c f)).getD t bl) j x)}:PW)={p with tasks:=(p.tasks.set t (upd (p.tasks.getD t bl) j x)).map (fg1 c f)}
 rw[List.map_set,e1];by_cases a:t<p.tasks.length
 ·rw[map_getD p t (fg1 c f) a]
 ·rw[List.set_eq_of_length_le (by rw[bN];omega),List.set_eq_of_length_le (by rw[bN];omega)]
theorem fg_ds (f:Int):∀(l:List Int) (p:PW),l.foldl ds1 (fgP 13 p f)=fgP 13 (l.foldl ds1 p) f
 |[],_=>rfl
 |z::l,p=>by
  have e:ds1 (fgP 13 p f) z=fgP 13 (ds1 p z) f:=by
   unfold ds1;rw[fg_task p 13 _ 9 _ _ (by decide),fg_task _ 13 _ 14 _ _ (by decide)]
  rw[dS,dS,e,fg_ds f l (ds1 p z)]
theorem fg_disp (p:PW) (f:Nat) (n:Int):dsP (fgP 13 p n) f=fgP 13 (dsP p f) n:=by
 unfold dsP;rw[show (fgP 13 p n).lines=p.lines from rfl,show (fgP 13 p n).bits=p.bits from rfl,fg_ds n (p.lines.getD f []) p];rfl
theorem fg_none (c:Nat) {p:PW} {n:Int} (h:∀g∈p.tasks,g c≠n):fgP c p n=p:=by
 unfold fgP;have e:p.tasks.map (fg1 c n)=p.tasks:=by
  conv=>rhs;rw[←List.map_id p.tasks]
  exact List.map_congr_left fun g a=>ae (h g a)
 rw[e]
def RefAt (m:Nat):Prop:=∀(p:PW) (s:Nat) (W:World) (wb:Nat) (tag:Nat→Nat) (V:Nat→Value),nds p<m→Inv p→TL p→s<p.slots.length→BoxT W wb tag V p→Calls Tryz.prog 15 #[.pointer (some ⟨wb,0,none⟩),.int .i64 s] W fun r W'=>r=.returned (.int .i64 (if (p.slots.getD s eS) 0=0 then 6 else 0))∧∃tag',BoxT W' wb tag' V (if (p.slots.getD s eS) 0=0 then p else drR m p s)∧Kt tag tag' W W'
set_option maxRecDepth 100000
set_option maxHeartbeats 8000000
theorem gone_4 {m:Nat} (p:PW) (f:Nat) (W:World) (wb:Nat) (tag:Nat→Nat) (V:Nat→Value) (hi:Inv p) (C:TL p) (hk:p.kinds[f]? =some 4) (s:opnd p 4 f=false) (bt:BoxT W wb tag V p):
  Calls Tryz.prog 37 #[.pointer (some ⟨wb,0,none⟩),.int .i64 f] W fun r W'=>r=.returned (.tuple #[])∧∃tag',BoxT W' wb tag' V (gnF (drR m) p 4 f)∧Kt tag tag' W W':=by
 obtain⟨x,z⟩:=List.getElem?_eq_some_iff.1 hk;have R:=hi.k24;have ad:(p.kinds.length:Int)≤1000:=by omega
 have aa:(f:Int)<(p.kinds.length:Int):=by omega
 have ah:(p.tasks.length:Int)≤1000:=by have:=hi.tasks;omega
 obtain⟨w,P,e1⟩:=bt.o.kinds.form (show 0<p.kinds.length by omega);obtain⟨q,cap3,v⟩:=bt.o.tasks.form (show 0<p.tasks.length by have:=hi.tasks;omega);have E1:=hid e1;have u:=hid v;have c1:W.cell? ⟨wb,1,none⟩=some (.slice (some ⟨w,0,none⟩) p.kinds.length P):=by rw[af bt.r (k:=1) rfl,e1]
 have F:=bt.kindsAt e1 x;rw[z] at F;have Z:=bt.kindsFr e1 f;obtain⟨b1,k1⟩:=bt.kindsCell e1 f 0;have G:=hid (show BoxT (W.setCell ⟨w,f,none⟩ (.int .i64 0)) wb tag V (nkP p f) from b1);have M:=hid k1;have hh:=nk_inv hi hk s;have U:(nkP p f).kinds.length=p.kinds.length:=ar ..;have tn:TL (nkP p f):=C.of rfl rfl;have S:(nkP p f).ram.length≤600:=by have:=hh.ram;omega
 have g:=fg_full (nk_inv7 hi hk s (by decide)) 12 (by decide) (f:Int);have L:=hid (show gnF (drR m) p 4 f=fwP (fgP 12 (nkP p f) f) 4 f by unfold gnF lsF;rw[ae (by decide),ag rfl]);have J:=hid (fun X E (h:BoxT X wb E V (fgP 12 (nkP p f) f))=>forgetWrong_any wb E V (fgP 12 (nkP p f) f) 4 f X h (g).fits ((tn.of rfl rfl:TL (fgP 12 (nkP p f) f))).len ((tn.of rfl rfl:TL (fgP 12 (nkP p f) f))).page ((tn.of rfl rfl:TL (fgP 12 (nkP p f) f))).word (by have:=(g).ram;have:=(g).k24;omega));clear hi C hk s bt x z R e1 v b1 k1 hh U tn S g;go_enter Tryz.func37,Tryz.ntmps37
 go_upto_region 2 with fail
 generalize World.setCell _ _ _=W1 at*;clear c1 F Z;go_upto_region 9 with fail
 go_loopw [6] (fun i wr=>∃(j:Nat),j≤p.tasks.length∧i=.int .i64 j∧Hid (BoxT wr wb tag V {nkP p f with tasks:=mapK (fg1 12 f) j p.tasks})∧Hid (Kt tag tag W wr)) (fun i _=>p.tasks.length - (intOf i).toNat)
 case atStart=>exact⟨0,by omega,rfl,hid (by rw[mapK_zero];exact G),M⟩
 case round=>
  obtain⟨j,hj,rfl,a,l⟩:=hrel;have c3:wr.cell? ⟨wb,3,none⟩=some (.slice (some ⟨q,0,none⟩) p.tasks.length cap3):=by rw[af a.r (k:=3) rfl,u.out]
  by_cases d:j<p.tasks.length
  ·have ac:(j:Int)<(p.tasks.length:Int):=by omega
   have b:j<(mapK (fg1 12 f) j p.tasks).length:=by rw[cV];exact d
   have e:V 3=.slice (some ⟨q,0,none⟩) (mapK (fg1 12 f) j p.tasks).length cap3:=by rw[cV];exact u
   have t:=a.tasksAt e b (show 12<20 by omega);have Q:=a.tasksFr e (j*20+12);simp only[mapK_at (fg1 12 f) j p.tasks d b] at t;by_cases c:p.tasks[j] 12=f
   ·obtain⟨B,A⟩:=a.tasksCell e b (show 12<20 by omega) (-1);have n:=hid (show BoxT (wr.setCell ⟨q,j*20+12,none⟩ (.int .i64 (-1))) wb tag V {nkP p f with tasks:=mapK (fg1 12 f) (j+1) p.tasks} by
     rw[mapK_succ (fg1 12 f) j p.tasks d,show fg1 12 f p.tasks[j]=upd p.tasks[j] 12 (-1) from ag c, ←mapK_at (fg1 12 f) j p.tasks d b];exact B)
    have K:=hid (l.trans A);rw[c] at t;clear B A e c b a;go_wp2_with fail
    exact⟨⟨j+1,by omega,by go_num,n,K⟩,by simp[intOf];omega⟩
   ·have n:=hid (show BoxT wr wb tag V {nkP p f with tasks:=mapK (fg1 12 f) (j+1) p.tasks} by
     rw[mapK_succ (fg1 12 f) j p.tasks d,show fg1 12 f p.tasks[j]=p.tasks[j] from ae c, ←mapK_at (fg1 12 f) j p.tasks d b,cF];exact a)
    have T:(p.tasks[j] 12==(f:Int))=false:=by simpa using c
    generalize p.tasks[j] 12=y at t T;clear e c b a Q;go_wp2_with fail
    exact⟨⟨j+1,by omega,by go_num,n,l⟩,by simp[intOf];omega⟩
  ·obtain rfl:j=p.tasks.length:=by omega
   have ab:¬((p.tasks.length:Int)<(p.tasks.length:Int)):=by omega
   have H:=hid (show BoxT wr wb tag V (fgP 12 (nkP p f) f) by unfold fgP;rw[show (nkP p f).tasks=p.tasks from rfl, ←mapK_all];exact a);have N:=l;clear a;go_wp2_with fail
   refine (J.out _ _ H).mono ?_;rintro r w9 ⟨rfl,Y,b9,D⟩;have I:=hid b9;have O:=hid (N.trans D);clear b9 D;go_wp2_with fail
   exact aY (aN rfl _ _ _) rfl ⟨rfl,Y,by rw[L.out];exact I,O.out⟩
theorem gone_2 {m:Nat} (p:PW) (f:Nat) (W:World) (wb:Nat) (tag:Nat→Nat) (V:Nat→Value) (hi:Inv p) (Y:TL p) (hk:p.kinds[f]? =some 2) (E:opnd p 2 f=false) (bt:BoxT W wb tag V p):
  Calls Tryz.prog 37 #[.pointer (some ⟨wb,0,none⟩),.int .i64 f] W fun r W'=>r=.returned (.tuple #[])∧∃tag',BoxT W' wb tag' V (gnF (drR m) p 2 f)∧Kt tag tag' W W':=by
 obtain⟨S,T⟩:=List.getElem?_eq_some_iff.1 hk;have al:=hi.k24;have aI:(p.kinds.length:Int)≤1000:=by omega
 have aD:(f:Int)<(p.kinds.length:Int):=by omega
 have aJ:(p.tasks.length:Int)≤1000:=by have:=hi.tasks;omega
 obtain⟨v,cap1,e1⟩:=bt.o.kinds.form (show 0<p.kinds.length by omega);obtain⟨g3,aj,Q⟩:=bt.o.tasks.form (show 0<p.tasks.length by have:=hi.tasks;omega);have L:=hid e1;have E3:=hid Q;have c1:W.cell? ⟨wb,1,none⟩=some (.slice (some ⟨v,0,none⟩) p.kinds.length cap1):=by rw[af bt.r (k:=1) rfl,e1]
 have x1:=bt.kindsAt e1 S;rw[T] at x1;have aB:=bt.kindsFr e1 f;obtain⟨b1,k1⟩:=bt.kindsCell e1 f 0;have B1:=hid (show BoxT (W.setCell ⟨v,f,none⟩ (.int .i64 0)) wb tag V (nkP p f) from b1);have K1:=hid k1;have hh:=nk_inv hi hk E;have U:(nkP p f).kinds.length=p.kinds.length:=ar ..;have tn:TL (nkP p f):=Y.of rfl rfl;have am:(nkP p f).ram.length≤600:=by have:=hh.ram;omega
 have B:=ut_inv (nk_inv7 hi hk E (by decide)) (f:Int);have M:=hid (nk_inv7 hi hk E (by decide)).ent;have HR:=hid (show gnF (drR m) p 2 f=fwP (utP (nkP p f) f) 2 f by unfold gnF lsF;rw[ag (.inl rfl)]);have ad:=hid (fun X ab (h:BoxT X wb ab V (utP (nkP p f) f))=>forgetWrong_any wb ab V (utP (nkP p f) f) 2 f X h (B).fits ((tn.ut f:TL (utP (nkP p f) f))).len ((tn.ut f:TL (utP (nkP p f) f))).page ((tn.ut f:TL (utP (nkP p f) f))).word (by have:=(B).ram;have:=(B).k24;omega));have aH:(p.ram.length:Int)≤1000:=by have:=hi.ram;omega
 have ai:=hid hi.ram;have ah:=hid (bt.o.ram.form (show 0<p.ram.length by have:=hi.ram;omega));have G:=hid U;have aE:(f:Int)≤23:=by omega
 clear hi Y hk E bt S T al e1 Q b1 k1 hh U tn am B;go_enter Tryz.func37,Tryz.ntmps37
 go_upto_region 2 with fail
 generalize World.setCell _ _ _=W1 at*;clear c1 x1 aB;obtain⟨A,cap0,P⟩:=ah.out;have K:=hid P;clear P;go_upto_region 4 with fail
 go_loopw [5] (fun i wr=>∃(j:Nat),j≤p.ram.length∧i=.int .i64 j∧Hid (BoxT wr wb tag V {nkP p f with ram:=idK (ut1 (nkP p f).kinds f) j p.ram})∧Hid (Kt tag tag W wr)) (fun i _=>p.ram.length - (intOf i).toNat)
 case atStart=>exact⟨0,by omega,rfl,hid (by rw[idK_zero];exact B1),K1⟩
 case round=>
  obtain⟨j,hj,rfl,a,l⟩:=hrel;have c0:wr.cell? ⟨wb,0,none⟩=some (.slice (some ⟨A,0,none⟩) p.ram.length cap0):=by rw[af a.r (k:=0) rfl,K.out]
  by_cases d:j<p.ram.length
  ·have au:(j:Int)<(p.ram.length:Int):=by omega
   have q:j<(idK (ut1 (nkP p f).kinds f) j p.ram).length:=by rw[idK_len];exact d
   have e:V 0=.slice (some ⟨A,0,none⟩) (idK (ut1 (nkP p f).kinds f) j p.ram).length cap0:=by rw[idK_len];exact K
   have xr:=a.ramAt e q;have fr:=a.ramFr e j;simp only[idK_at d q] at xr;have C:j/16<(nkP p f).kinds.length:=by rw[G.out];have:=ai.out;omega
   have av:((j:Int)/16)=((j/16:Nat):Int):=by omega
   have aw:((j/16:Nat):Int)<(p.kinds.length:Int):=by have:=G.out;omega
   have R:V 1=.slice (some ⟨v,0,none⟩) (nkP p f).kinds.length cap1:=by rw[G.out];exact L
   have c1:wr.cell? ⟨wb,1,none⟩=some (.slice (some ⟨v,0,none⟩) p.kinds.length cap1):=by rw[af a.r (k:=1) rfl,L.out]
   have xk:=a.kindsAt R C;obtain⟨kd,D⟩:∃kd,(nkP p f).kinds[j/16]=kd:=⟨_,rfl⟩
   obtain⟨y,g⟩:∃y,p.ram[j]=y:=⟨_,rfl⟩
   have t:=hid (show (nkP p f).kinds.getD (j/16) 0=kd by rw[aa,ac C];exact D);have N:=hid (show (nkP p f).kinds[j/16]? =some kd by rw[ac C,D]);have s:=hid g;rw[g] at xr;have aC:wr.cell? ⟨v,j/16,none⟩=some (.int .i64 kd):=by rw[←D];exact xk
   generalize j/16=kq at av aw aC ⊢;clear xk D g R C;by_cases b:kd=3
   ·have ao:(kd==3)=true:=by simpa using b
    rcases M j y kd (by show p.ram[j]? =some y;rw[ac d,s.out]) N (.inl b) with g|⟨n,an,z⟩
    ·have I:(y !=0)=false:=by rw[g];rfl
     have c:=hid (show BoxT wr wb tag V {nkP p f with ram:=idK (ut1 (nkP p f).kinds f) (j+1) p.ram} by
      rw[idK_same d (by unfold ut1;rw[ae (by rw[t.out,s.out,g];rintro⟨-,h|h⟩<;>omega)])];exact a)
     clear e q a b g;go_wp2_with fail
     exact⟨⟨j+1,by omega,by go_num,c,l⟩,by simp[intOf];omega⟩
    ·have I:(y !=0)=true:=bne_iff_ne.2 (by omega);have ax:y%1024=(n:Int):=by omega
     have ay:0≤y:=by omega
     have az:y<65536:=by omega
     by_cases u:n=f
     ·have H:((n:Int)==(f:Int))=true:=by simp[u]
      obtain⟨x,w⟩:=a.ramCell e j 0;have c:=hid (show BoxT (wr.setCell ⟨A,j,none⟩ (.int .i64 0)) wb tag V {nkP p f with ram:=idK (ut1 (nkP p f).kinds f) (j+1) p.ram} by
       rw[idK_succ d,show ut1 (nkP p f).kinds f j p.ram[j]=0 by unfold ut1;rw[ag (by rw[t.out,s.out];exact⟨.inl b,by omega⟩)]];exact x)
      have F:=hid (l.trans w);clear x w e q a b u z;go_wp2_with fail
      exact⟨⟨j+1,by omega,by go_num,c,F⟩,by simp[intOf];omega⟩
     ·have H:((n:Int)==(f:Int))=false:=by simp;omega
      have c:=hid (show BoxT wr wb tag V {nkP p f with ram:=idK (ut1 (nkP p f).kinds f) (j+1) p.ram} by
       rw[idK_same d (by unfold ut1;rw[ae (by rw[t.out,s.out];rintro⟨-,h|h⟩<;>omega)])];exact a)
      clear e q a b u z;go_wp2_with fail
      exact⟨⟨j+1,by omega,by go_num,c,l⟩,by simp[intOf];omega⟩
   ·have ao:(kd==3)=false:=by simpa using b
    have aq:=hid b;clear b;by_cases b:kd=4
    ·have ap:(kd==4)=true:=by simpa using b
     rcases M j y kd (by show p.ram[j]? =some y;rw[ac d,s.out]) N (.inr b) with g|⟨n,an,z⟩
     ·have I:(y !=0)=false:=by rw[g];rfl
      have c:=hid (show BoxT wr wb tag V {nkP p f with ram:=idK (ut1 (nkP p f).kinds f) (j+1) p.ram} by
       rw[idK_same d (by unfold ut1;rw[ae (by rw[t.out,s.out,g];rintro⟨-,h|h⟩<;>omega)])];exact a)
      clear e q a b g;go_wp2_with fail
      exact⟨⟨j+1,by omega,by go_num,c,l⟩,by simp[intOf];omega⟩
     ·have I:(y !=0)=true:=bne_iff_ne.2 (by omega);have ax:y%1024=(n:Int):=by omega
      have ay:0≤y:=by omega
      have az:y<65536:=by omega
      by_cases u:n=f
      ·have H:((n:Int)==(f:Int))=true:=by simp[u]
       obtain⟨x,w⟩:=a.ramCell e j 0;have c:=hid (show BoxT (wr.setCell ⟨A,j,none⟩ (.int .i64 0)) wb tag V {nkP p f with ram:=idK (ut1 (nkP p f).kinds f) (j+1) p.ram} by
        rw[idK_succ d,show ut1 (nkP p f).kinds f j p.ram[j]=0 by unfold ut1;rw[ag (by rw[t.out,s.out];exact⟨.inr b,by omega⟩)]];exact x)
       have F:=hid (l.trans w);clear x w e q a b u z;go_wp2_with fail
       exact⟨⟨j+1,by omega,by go_num,c,F⟩,by simp[intOf];omega⟩
      ·have H:((n:Int)==(f:Int))=false:=by simp;omega
       have c:=hid (show BoxT wr wb tag V {nkP p f with ram:=idK (ut1 (nkP p f).kinds f) (j+1) p.ram} by
        rw[idK_same d (by unfold ut1;rw[ae (by rw[t.out,s.out];rintro⟨-,h|h⟩<;>omega)])];exact a)
       clear e q a b u z;go_wp2_with fail
       exact⟨⟨j+1,by omega,by go_num,c,l⟩,by simp[intOf];omega⟩
    ·have ap:(kd==4)=false:=by simpa using b
     have c:=hid (show BoxT wr wb tag V {nkP p f with ram:=idK (ut1 (nkP p f).kinds f) (j+1) p.ram} by
      rw[idK_same d (by unfold ut1;rw[ae (by rw[t.out];rintro⟨h|h, -⟩;exact aq h;exact b h)])];exact a)
     clear e q a b;go_wp2_with fail
     exact⟨⟨j+1,by omega,by go_num,c,l⟩,by simp[intOf];omega⟩
  ·obtain rfl:j=p.ram.length:=by omega
   have aF:¬((p.ram.length:Int)<(p.ram.length:Int)):=by omega
   have J:=hid (show BoxT wr wb tag V (utP (nkP p f) f) by unfold utP;rw[show (nkP p f).ram=p.ram from rfl, ←idK_all];exact a);have K2:=l;clear a l;generalize wr=O at*;have c3:O.cell? ⟨wb,3,none⟩=some (.slice (some ⟨g3,0,none⟩) p.tasks.length aj):=by rw[af J.r (k:=3) rfl,E3.out]
   go_upto_region 9 with fail
   go_loopw [6] (fun i wr=>∃(j:Nat),j≤p.tasks.length∧i=.int .i64 j∧O=wr) (fun i _=>p.tasks.length - (intOf i).toNat)
   case atStart=>exact⟨0,by omega,rfl,rfl⟩
   case round=>
    obtain⟨j,hj,rfl,rfl⟩:=hrel;by_cases d:j<p.tasks.length
    ·have au:(j:Int)<(p.tasks.length:Int):=by omega
     go_wp2_with fail
     exact⟨⟨j+1,by omega,by go_num,by first|rfl|trivial⟩,by simp[intOf];omega⟩
    ·obtain rfl:j=p.tasks.length:=by omega
     have aG:¬((p.tasks.length:Int)<(p.tasks.length:Int)):=by omega
     go_wp2_with fail
     refine (ad.out _ _ J).mono ?_;rintro r w9 ⟨rfl,aA,b9,Z⟩;have B9:=hid b9;have K9:=hid (K2.trans Z);clear b9 Z;go_wp2_with fail
     exact aY (aN rfl _ _ _) rfl ⟨rfl,aA,by rw[HR.out];exact B9,K9.out⟩
theorem gone_3 {m:Nat} (p:PW) (f:Nat) (W:World) (wb:Nat) (tag:Nat→Nat) (V:Nat→Value) (hi:Inv p) (Y:TL p) (hk:p.kinds[f]? =some 3) (E:opnd p 3 f=false) (bt:BoxT W wb tag V p):
  Calls Tryz.prog 37 #[.pointer (some ⟨wb,0,none⟩),.int .i64 f] W fun r W'=>r=.returned (.tuple #[])∧∃tag',BoxT W' wb tag' V (gnF (drR m) p 3 f)∧Kt tag tag' W W':=by
 obtain⟨S,T⟩:=List.getElem?_eq_some_iff.1 hk;have al:=hi.k24;have aI:(p.kinds.length:Int)≤1000:=by omega
 have aD:(f:Int)<(p.kinds.length:Int):=by omega
 have aJ:(p.tasks.length:Int)≤1000:=by have:=hi.tasks;omega
 obtain⟨v,cap1,e1⟩:=bt.o.kinds.form (show 0<p.kinds.length by omega);obtain⟨g3,aj,Q⟩:=bt.o.tasks.form (show 0<p.tasks.length by have:=hi.tasks;omega);have L:=hid e1;have E3:=hid Q;have c1:W.cell? ⟨wb,1,none⟩=some (.slice (some ⟨v,0,none⟩) p.kinds.length cap1):=by rw[af bt.r (k:=1) rfl,e1]
 have x1:=bt.kindsAt e1 S;rw[T] at x1;have aB:=bt.kindsFr e1 f;obtain⟨b1,k1⟩:=bt.kindsCell e1 f 0;have B1:=hid (show BoxT (W.setCell ⟨v,f,none⟩ (.int .i64 0)) wb tag V (nkP p f) from b1);have K1:=hid k1;have hh:=nk_inv hi hk E;have U:(nkP p f).kinds.length=p.kinds.length:=ar ..;have tn:TL (nkP p f):=Y.of rfl rfl;have am:(nkP p f).ram.length≤600:=by have:=hh.ram;omega
 have B:=ut_inv (nk_inv7 hi hk E (by decide)) (f:Int);have M:=hid (nk_inv7 hi hk E (by decide)).ent;have HR:=hid (show gnF (drR m) p 3 f=fwP (utP (nkP p f) f) 3 f by unfold gnF lsF;rw[ag (.inr rfl)]);have ad:=hid (fun X ab (h:BoxT X wb ab V (utP (nkP p f) f))=>forgetWrong_any wb ab V (utP (nkP p f) f) 3 f X h (B).fits ((tn.ut f:TL (utP (nkP p f) f))).len ((tn.ut f:TL (utP (nkP p f) f))).page ((tn.ut f:TL (utP (nkP p f) f))).word (by have:=(B).ram;have:=(B).k24;omega));have aH:(p.ram.length:Int)≤1000:=by have:=hi.ram;omega
 have ai:=hid hi.ram;have ah:=hid (bt.o.ram.form (show 0<p.ram.length by have:=hi.ram;omega));have G:=hid U;have aE:(f:Int)≤23:=by omega
 clear hi Y hk E bt S T al e1 Q b1 k1 hh U tn am B;go_enter Tryz.func37,Tryz.ntmps37
 go_upto_region 2 with fail
 generalize World.setCell _ _ _=W1 at*;clear c1 x1 aB;obtain⟨A,cap0,P⟩:=ah.out;have K:=hid P;clear P;go_upto_region 4 with fail
 go_loopw [5] (fun i wr=>∃(j:Nat),j≤p.ram.length∧i=.int .i64 j∧Hid (BoxT wr wb tag V {nkP p f with ram:=idK (ut1 (nkP p f).kinds f) j p.ram})∧Hid (Kt tag tag W wr)) (fun i _=>p.ram.length - (intOf i).toNat)
 case atStart=>exact⟨0,by omega,rfl,hid (by rw[idK_zero];exact B1),K1⟩
 case round=>
  obtain⟨j,hj,rfl,a,l⟩:=hrel;have c0:wr.cell? ⟨wb,0,none⟩=some (.slice (some ⟨A,0,none⟩) p.ram.length cap0):=by rw[af a.r (k:=0) rfl,K.out]
  by_cases d:j<p.ram.length
  ·have au:(j:Int)<(p.ram.length:Int):=by omega
   have q:j<(idK (ut1 (nkP p f).kinds f) j p.ram).length:=by rw[idK_len];exact d
   have e:V 0=.slice (some ⟨A,0,none⟩) (idK (ut1 (nkP p f).kinds f) j p.ram).length cap0:=by rw[idK_len];exact K
   have xr:=a.ramAt e q;have fr:=a.ramFr e j;simp only[idK_at d q] at xr;have C:j/16<(nkP p f).kinds.length:=by rw[G.out];have:=ai.out;omega
   have av:((j:Int)/16)=((j/16:Nat):Int):=by omega
   have aw:((j/16:Nat):Int)<(p.kinds.length:Int):=by have:=G.out;omega
   have R:V 1=.slice (some ⟨v,0,none⟩) (nkP p f).kinds.length cap1:=by rw[G.out];exact L
   have c1:wr.cell? ⟨wb,1,none⟩=some (.slice (some ⟨v,0,none⟩) p.kinds.length cap1):=by rw[af a.r (k:=1) rfl,L.out]
   have xk:=a.kindsAt R C;obtain⟨kd,D⟩:∃kd,(nkP p f).kinds[j/16]=kd:=⟨_,rfl⟩
   obtain⟨y,g⟩:∃y,p.ram[j]=y:=⟨_,rfl⟩
   have t:=hid (show (nkP p f).kinds.getD (j/16) 0=kd by rw[aa,ac C];exact D);have N:=hid (show (nkP p f).kinds[j/16]? =some kd by rw[ac C,D]);have s:=hid g;rw[g] at xr;have aC:wr.cell? ⟨v,j/16,none⟩=some (.int .i64 kd):=by rw[←D];exact xk
   generalize j/16=kq at av aw aC ⊢;clear xk D g R C;by_cases b:kd=3
   ·have ao:(kd==3)=true:=by simpa using b
    rcases M j y kd (by show p.ram[j]? =some y;rw[ac d,s.out]) N (.inl b) with g|⟨n,an,z⟩
    ·have I:(y !=0)=false:=by rw[g];rfl
     have c:=hid (show BoxT wr wb tag V {nkP p f with ram:=idK (ut1 (nkP p f).kinds f) (j+1) p.ram} by
      rw[idK_same d (by unfold ut1;rw[ae (by rw[t.out,s.out,g];rintro⟨-,h|h⟩<;>omega)])];exact a)
     clear e q a b g;go_wp2_with fail
     exact⟨⟨j+1,by omega,by go_num,c,l⟩,by simp[intOf];omega⟩
    ·have I:(y !=0)=true:=bne_iff_ne.2 (by omega);have ax:y%1024=(n:Int):=by omega
     have ay:0≤y:=by omega
     have az:y<65536:=by omega
     by_cases u:n=f
     ·have H:((n:Int)==(f:Int))=true:=by simp[u]
      obtain⟨x,w⟩:=a.ramCell e j 0;have c:=hid (show BoxT (wr.setCell ⟨A,j,none⟩ (.int .i64 0)) wb tag V {nkP p f with ram:=idK (ut1 (nkP p f).kinds f) (j+1) p.ram} by
       rw[idK_succ d,show ut1 (nkP p f).kinds f j p.ram[j]=0 by unfold ut1;rw[ag (by rw[t.out,s.out];exact⟨.inl b,by omega⟩)]];exact x)
      have F:=hid (l.trans w);clear x w e q a b u z;go_wp2_with fail
      exact⟨⟨j+1,by omega,by go_num,c,F⟩,by simp[intOf];omega⟩
     ·have H:((n:Int)==(f:Int))=false:=by simp;omega
      have c:=hid (show BoxT wr wb tag V {nkP p f with ram:=idK (ut1 (nkP p f).kinds f) (j+1) p.ram} by
       rw[idK_same d (by unfold ut1;rw[ae (by rw[t.out,s.out];rintro⟨-,h|h⟩<;>omega)])];exact a)
      clear e q a b u z;go_wp2_with fail
      exact⟨⟨j+1,by omega,by go_num,c,l⟩,by simp[intOf];omega⟩
   ·have ao:(kd==3)=false:=by simpa using b
    have aq:=hid b;clear b;by_cases b:kd=4
    ·have ap:(kd==4)=true:=by simpa using b
     rcases M j y kd (by show p.ram[j]? =some y;rw[ac d,s.out]) N (.inr b) with g|⟨n,an,z⟩
     ·have I:(y !=0)=false:=by rw[g];rfl
      have c:=hid (show BoxT wr wb tag V {nkP p f with ram:=idK (ut1 (nkP p f).kinds f) (j+1) p.ram} by
       rw[idK_same d (by unfold ut1;rw[ae (by rw[t.out,s.out,g];rintro⟨-,h|h⟩<;>omega)])];exact a)
      clear e q a b g;go_wp2_with fail
      exact⟨⟨j+1,by omega,by go_num,c,l⟩,by simp[intOf];omega⟩
     ·have I:(y !=0)=true:=bne_iff_ne.2 (by omega);have ax:y%1024=(n:Int):=by omega
      have ay:0≤y:=by omega
      have az:y<65536:=by omega
      by_cases u:n=f
      ·have H:((n:Int)==(f:Int))=true:=by simp[u]
       obtain⟨x,w⟩:=a.ramCell e j 0;have c:=hid (show BoxT (wr.setCell ⟨A,j,none⟩ (.int .i64 0)) wb tag V {nkP p f with ram:=idK (ut1 (nkP p f).kinds f) (j+1) p.ram} by
        rw[idK_succ d,show ut1 (nkP p f).kinds f j p.ram[j]=0 by unfold ut1;rw[ag (by rw[t.out,s.out];exact⟨.inr b,by omega⟩)]];exact x)
       have F:=hid (l.trans w);clear x w e q a b u z;go_wp2_with fail
       exact⟨⟨j+1,by omega,by go_num,c,F⟩,by simp[intOf];omega⟩
      ·have H:((n:Int)==(f:Int))=false:=by simp;omega
       have c:=hid (show BoxT wr wb tag V {nkP p f with ram:=idK (ut1 (nkP p f).kinds f) (j+1) p.ram} by
        rw[idK_same d (by unfold ut1;rw[ae (by rw[t.out,s.out];rintro⟨-,h|h⟩<;>omega)])];exact a)
       clear e q a b u z;go_wp2_with fail
       exact⟨⟨j+1,by omega,by go_num,c,l⟩,by simp[intOf];omega⟩
    ·have ap:(kd==4)=false:=by simpa using b
     have c:=hid (show BoxT wr wb tag V {nkP p f with ram:=idK (ut1 (nkP p f).kinds f) (j+1) p.ram} by
      rw[idK_same d (by unfold ut1;rw[ae (by rw[t.out];rintro⟨h|h, -⟩;exact aq h;exact b h)])];exact a)
     clear e q a b;go_wp2_with fail
     exact⟨⟨j+1,by omega,by go_num,c,l⟩,by simp[intOf];omega⟩
  ·obtain rfl:j=p.ram.length:=by omega
   have aF:¬((p.ram.length:Int)<(p.ram.length:Int)):=by omega
   have J:=hid (show BoxT wr wb tag V (utP (nkP p f) f) by unfold utP;rw[show (nkP p f).ram=p.ram from rfl, ←idK_all];exact a);have K2:=l;clear a l;generalize wr=O at*;have c3:O.cell? ⟨wb,3,none⟩=some (.slice (some ⟨g3,0,none⟩) p.tasks.length aj):=by rw[af J.r (k:=3) rfl,E3.out]
   go_upto_region 9 with fail
   go_loopw [6] (fun i wr=>∃(j:Nat),j≤p.tasks.length∧i=.int .i64 j∧O=wr) (fun i _=>p.tasks.length - (intOf i).toNat)
   case atStart=>exact⟨0,by omega,rfl,rfl⟩
   case round=>
    obtain⟨j,hj,rfl,rfl⟩:=hrel;by_cases d:j<p.tasks.length
    ·have au:(j:Int)<(p.tasks.length:Int):=by omega
     go_wp2_with fail
     exact⟨⟨j+1,by omega,by go_num,by first|rfl|trivial⟩,by simp[intOf];omega⟩
    ·obtain rfl:j=p.tasks.length:=by omega
     have aG:¬((p.tasks.length:Int)<(p.tasks.length:Int)):=by omega
     go_wp2_with fail
     refine (ad.out _ _ J).mono ?_;rintro r w9 ⟨rfl,aA,b9,Z⟩;have B9:=hid b9;have K9:=hid (K2.trans Z);clear b9 Z;go_wp2_with fail
     exact aY (aN rfl _ _ _) rfl ⟨rfl,aA,by rw[HR.out];exact B9,K9.out⟩
theorem gone_5 {m:Nat} (O:RefAt m) (p:PW) (f:Nat) (W:World) (wb:Nat) (tag:Nat→Nat) (V:Nat→Value) (hi:Inv p) (Y:TL p) (hk:p.kinds[f]? =some 5) (I:opnd p 5 f=false) (b:nds p<m+1) (bt:BoxT W wb tag V p):
  Calls Tryz.prog 37 #[.pointer (some ⟨wb,0,none⟩),.int .i64 f] W fun r W'=>r=.returned (.tuple #[])∧∃tag',BoxT W' wb tag' V (gnF (drR m) p 5 f)∧Kt tag tag' W W':=by
 obtain⟨P,R⟩:=List.getElem?_eq_some_iff.1 hk;have am:=hi.k24;have aE:(p.kinds.length:Int)≤1000:=by omega
 have aA:(f:Int)<(p.kinds.length:Int):=by omega
 have aF:(p.tasks.length:Int)≤1000:=by have:=hi.tasks;omega
 obtain⟨M,al,e1⟩:=bt.o.kinds.form (show 0<p.kinds.length by omega);obtain⟨F,cap3,L⟩:=bt.o.tasks.form (show 0<p.tasks.length by have:=hi.tasks;omega);have E1:=hid e1;have K:=hid L;have c1:W.cell? ⟨wb,1,none⟩=some (.slice (some ⟨M,0,none⟩) p.kinds.length al):=by rw[af bt.r (k:=1) rfl,e1]
 have x1:=bt.kindsAt e1 P;rw[R] at x1;have ax:=bt.kindsFr e1 f;obtain⟨b1,k1⟩:=bt.kindsCell e1 f 0;have B1:=hid (show BoxT (W.setCell ⟨M,f,none⟩ (.int .i64 0)) wb tag V (nkP p f) from b1);have K1:=hid k1;have hh:=nk_inv hi hk I;have aq:(nkP p f).kinds.length=p.kinds.length:=ar ..;have tn:TL (nkP p f):=Y.of rfl rfl;have an:(nkP p f).ram.length≤600:=by have:=hh.ram;omega
 have Q:=fg_full (nk_inv7 hi hk I (by decide)) 11 (by decide) (f:Int);have ap:nds (nkP p f)+1=nds p:=(cnt_set p.kinds f).2 hk;have HR:=hid (show gnF (drR m) p 5 f=fwP (daF (drR m) f 16 (fgP 11 (nkP p f) f)) 5 f by unfold gnF lsF;rw[ae (by decide),ae (by decide),ag rfl]);have ad:=hid (show f*16+16≤p.slots.length by have:=hi.slots;omega);have aB:(f:Int)≤23:=by omega
 have HD:=hid O;have C:=hid (show Inv (fgP 11 (nkP p f) f)∧TL (fgP 11 (nkP p f) f)∧nds (fgP 11 (nkP p f) f)<m from⟨Q,tn.of rfl rfl,by show nds (nkP p f)<m;omega⟩);have ac:=hid (fun X aa q (h:BoxT X wb aa V q) (G:Inv q) (H:TL q)=>forgetWrong_any wb aa V q 5 f X h G.fits H.len H.page H.word (by have:=G.ram;have:=G.k24;omega));clear hi Y hk I bt P R am e1 L b1 k1 hh aq tn an Q ap O b;go_enter Tryz.func37,Tryz.ntmps37
 go_upto_region 2 with fail
 generalize World.setCell _ _ _=W1 at*;clear c1 x1 ax;go_upto_region 9 with fail
 go_loopw [6] (fun i wr=>∃(j:Nat),j≤p.tasks.length∧i=.int .i64 j∧Hid (BoxT wr wb tag V {nkP p f with tasks:=mapK (fg1 11 f) j p.tasks})∧Hid (Kt tag tag W wr)) (fun i _=>p.tasks.length - (intOf i).toNat)
 case atStart=>exact⟨0,by omega,rfl,hid (by rw[mapK_zero];exact B1),K1⟩
 case round=>
  obtain⟨j,hj,rfl,d,D⟩:=hrel;have c3:wr.cell? ⟨wb,3,none⟩=some (.slice (some ⟨F,0,none⟩) p.tasks.length cap3):=by rw[af d.r (k:=3) rfl,K.out]
  by_cases n:j<p.tasks.length
  ·have aD:(j:Int)<(p.tasks.length:Int):=by omega
   have e:j<(mapK (fg1 11 f) j p.tasks).length:=by rw[cV];exact n
   have w:V 3=.slice (some ⟨F,0,none⟩) (mapK (fg1 11 f) j p.tasks).length cap3:=by rw[cV];exact K
   have J:=d.tasksAt w e (show 11<20 by omega);have fc:=d.tasksFr w (j*20+11);simp only[mapK_at (fg1 11 f) j p.tasks n e] at J;by_cases l:p.tasks[j] 11=f
   ·obtain⟨b,S⟩:=d.tasksCell w e (show 11<20 by omega) (-1);have u:=hid (show BoxT (wr.setCell ⟨F,j*20+11,none⟩ (.int .i64 (-1))) wb tag V {nkP p f with tasks:=mapK (fg1 11 f) (j+1) p.tasks} by
     rw[mapK_succ (fg1 11 f) j p.tasks n,show fg1 11 f p.tasks[j]=upd p.tasks[j] 11 (-1) from ag l, ←mapK_at (fg1 11 f) j p.tasks n e];exact b)
    have ah:=hid (D.trans S);rw[l] at J;clear b S w l e d;go_wp2_with fail
    exact⟨⟨j+1,by omega,by go_num,u,ah⟩,by simp[intOf];omega⟩
   ·have u:=hid (show BoxT wr wb tag V {nkP p f with tasks:=mapK (fg1 11 f) (j+1) p.tasks} by
     rw[mapK_succ (fg1 11 f) j p.tasks n,show fg1 11 f p.tasks[j]=p.tasks[j] from ae l, ←mapK_at (fg1 11 f) j p.tasks n e,cF];exact d)
    have ao:(p.tasks[j] 11==(f:Int))=false:=by simpa using l
    generalize p.tasks[j] 11=y at J ao;clear w l e d fc;go_wp2_with fail
    exact⟨⟨j+1,by omega,by go_num,u,D⟩,by simp[intOf];omega⟩
  ·obtain rfl:j=p.tasks.length:=by omega
   have aC:¬((p.tasks.length:Int)<(p.tasks.length:Int)):=by omega
   have B2:=hid (show BoxT wr wb tag V (fgP 11 (nkP p f) f) by unfold fgP;rw[show (nkP p f).tasks=p.tasks from rfl, ←mapK_all];exact d);have K2:=D;clear d;generalize T:fgP 11 (nkP p f) f=q0 at*;have aj:=hid (show q0.slots.length=p.slots.length by rw[←T];rfl);clear T;go_upto_region 19 with fail
   go_loopw [7] (fun i wr=>∃(a:Nat) (v:Int),i=.int .i64 v∧Hid (v=(a:Int) - 1∧a≤16∧∃q tg,BoxT wr wb tg V q∧Kt tag tg W wr∧Inv q∧TL q∧nds q<m∧q.slots.length=p.slots.length∧daF (drR m) f a q=daF (drR m) f 16 q0)) (fun i _=>(intOf i+1).toNat)
   case atStart=>exact⟨16,15,rfl,hid ⟨rfl,au _,q0,tag,B2.out,K2.out,C.1,C.2.1,C.2.2,aj.out,rfl⟩⟩
   case round=>
    obtain⟨a,v,rfl,B⟩:=hrel;obtain⟨Z,N,q,tg,bt,kt,hi,t,b,z,x⟩:=B.out
    cases a with
    |zero=>
     obtain rfl:v= -1:=by omega
     have HB:=hid bt;have E:=hid kt;have ai:=hid (show daF (drR m) f 16 q0=q by rw[←x,da_zero]);have ab:=hid (ac.out _ tg q bt hi t);clear bt kt hi b z x Z N B t;go_wp2_with fail
     refine ab.mono ?_;rintro r w9 ⟨rfl,aw,b9,k9⟩;have B9:=hid b9;have K9:=hid (E.trans k9);clear b9 k9;go_wp2_with fail
     exact aY (aN rfl _ _ _) rfl ⟨rfl,aw,by rw[HR.out,ai.out];exact B9,K9.out⟩
    |succ a=>
     obtain rfl:v=(a:Int):=by omega
     obtain⟨sl,U⟩:∃sl:Nat,f*16+a=sl:=⟨_,rfl⟩
     have aG:(f:Int)*16+(a:Int)=(sl:Int):=by omega
     have s:sl<q.slots.length:=by have:=ad.out;omega
     have ay:0≤(a:Int):=by omega
     have az:(a:Int)≤15:=by omega
     have E:=hid kt;have A:=hid (HD.out q sl wr wb tg V b hi t s bt);have g:=hid (show (Inv (if (q.slots.getD sl eS) 0=0 then q else drR m q sl)∧TL (if (q.slots.getD sl eS) 0=0 then q else drR m q sl)∧nds (if (q.slots.getD sl eS) 0=0 then q else drR m q sl)<m∧(if (q.slots.getD sl eS) 0=0 then q else drR m q sl).slots.length=p.slots.length∧daF (drR m) f a (if (q.slots.getD sl eS) 0=0 then q else drR m q sl)=daF (drR m) f 16 q0) from by
      refine⟨?_,?_,?_,?_,by rw[←x,da_succ,U]⟩
      all_goals by_cases c:(q.slots.getD sl eS) 0=0
      ·rw[ag c];exact hi
      ·rw[ae c];exact ((rr_inv m).1 q sl b hi s c).1
      ·rw[ag c];exact t
      ·rw[ae c];exact (rr_inv m).2 q sl b hi s c t
      ·rw[ag c];exact b
      ·rw[ae c];have:=((rr_inv m).1 q sl b hi s c).2.1;omega
      ·rw[ag c];exact z
      ·rw[ae c];obtain⟨i1, -,i3⟩:=(rr_inv m).1 q sl b hi s c;rw[i1.slots,i3, ←hi.slots];exact z)
     generalize (if (q.slots.getD sl eS) 0=0 then q else drR m q sl)=qq at A g;generalize (if (q.slots.getD sl eS) 0=0 then (6:Int) else 0)=ee at A;clear bt kt hi b z x Z N B s U t;go_wp2_with fail
     refine A.mono ?_;rintro r w1 ⟨rfl,av,b2,k2⟩;have u:=hid (show (a≤16∧∃q tg,BoxT w1 wb tg V q∧Kt tag tg W w1∧Inv q∧TL q∧nds q<m∧q.slots.length=p.slots.length∧daF (drR m) f a q=daF (drR m) f 16 q0) from⟨by omega,qq,av,b2,E.trans k2,g.1,g.2.1,g.2.2.1,g.2.2.2.1,g.2.2.2.2⟩);clear b2 k2;go_wp2_with fail
     exact⟨⟨a,(a:Int) - 1,by first|rfl|go_num,hid ⟨rfl,u.out⟩⟩,by simp[intOf]<;>omega⟩
set_option maxRecDepth 512
set_option maxHeartbeats 200000
theorem st_owes (p:PW) (t:Nat) (a:t<p.tasks.length):(stP p t).tasks.getD t bl 17=if p.tasks.getD t bl 17=t then -1 else p.tasks.getD t bl 17:=by
 unfold stP;rw[task_getD _ t 14 17 _ (by rw[ap];show t<(p.tasks.map (nOw t)).length;rw[bN];exact a),ae (by decide),task_getD _ t 9 17 _ (by show t<(p.tasks.map (nOw t)).length;rw[bN];exact a),ae (by decide)];show (p.tasks.map (nOw t)).getD t bl 17=_
 rw[map_getD p t (nOw t) a];unfold nOw;by_cases e:p.tasks.getD t bl 17=t
 ·rw[ag e,ag e];exact ag rfl
 ·rw[ae e,ae e]
theorem et_self (q:PW) (t:Nat):({q.task t 9 0 with tasks:=(q.task t 9 0).tasks.set t bl}:PW)={q with tasks:=q.tasks.set t bl}:=by
 unfold PW.task;simp only[eo]
set_option maxRecDepth 100000
set_option maxHeartbeats 8000000
theorem gone_6 {m:Nat} (p:PW) (f:Nat) (W:World) (wb:Nat) (tag:Nat→Nat) (V:Nat→Value) (hi:Inv p) (ht:TL p) (hk:p.kinds[f]? =some 6) (ho:opnd p 6 f=false) (bt:BoxT W wb tag V p):
  Calls Tryz.prog 37 #[.pointer (some ⟨wb,0,none⟩),.int .i64 f] W fun r W'=>r=.returned (.tuple #[])∧∃tag',BoxT W' wb tag' V (gnF (drR m) p 6 f)∧Kt tag tag' W W':=by
 obtain⟨hf,au⟩:=List.getElem?_eq_some_iff.1 hk;have az:=hi.k24;have aJ:(p.kinds.length:Int)≤1000:=by omega
 have aE:(f:Int)<(p.kinds.length:Int):=by omega
 have aK:(p.tasks.length:Int)≤1000:=by have:=hi.tasks;omega
 obtain⟨g1,ay,e1⟩:=bt.o.kinds.form (show 0<p.kinds.length by omega);obtain⟨b,cap3,e3⟩:=bt.o.tasks.form (show 0<p.tasks.length by have:=hi.tasks;omega);have E1:=hid e1;have l:=hid e3;have c1:W.cell? ⟨wb,1,none⟩=some (.slice (some ⟨g1,0,none⟩) p.kinds.length ay):=by rw[af bt.r (k:=1) rfl,e1]
 have n:=bt.kindsAt e1 hf;rw[au] at n;have aD:=bt.kindsFr e1 f;obtain⟨b1,k1⟩:=bt.kindsCell e1 f 0;have B1:=hid (show BoxT (W.setCell ⟨g1,f,none⟩ (.int .i64 0)) wb tag V (nkP p f) from b1);have K1:=hid k1;have hh:=nk_inv hi hk ho;have aC:(nkP p f).kinds.length=p.kinds.length:=ar ..;have tn:TL (nkP p f):=ht.of rfl rfl;have aB:(nkP p f).ram.length≤600:=by have:=hh.ram;omega
 have R:=et_inv (nk_inv7 hi hk ho (by decide)) f;have HR:=hid (show gnF (drR m) p 6 f=fwP (etP (nkP p f) f) 6 f by unfold gnF lsF;rw[ae (by decide),ae (by decide),ae (by decide),ag rfl]);have ao:=hid (fun X av (h:BoxT X wb av V (etP (nkP p f) f))=>forgetWrong_any wb av V (etP (nkP p f) f) 6 f X h (R).fits ((tn.of (et_tl (nkP p f) f).1 (et_tl (nkP p f) f).2:TL (etP (nkP p f) f))).len ((tn.of (et_tl (nkP p f) f).1 (et_tl (nkP p f) f).2:TL (etP (nkP p f) f))).page ((tn.of (et_tl (nkP p f) f).1 (et_tl (nkP p f) f).2:TL (etP (nkP p f) f))).word (by have:=(R).ram;have:=(R).k24;omega));have E:f<p.tasks.length:=by rw[hi.tasks];exact hf
 have B:=hid E;have aq:=hid (fun X (h:BoxT X wb tag V (nkP p f))=>stopped_ref wb tag V (nkP p f) f X h hh.fits E);have C:=hid (show (stP (nkP p f) f).tasks.length=p.tasks.length from st_len (nkP p f) f);have al:=st_owes (nkP p f) f E;obtain⟨ow,ai⟩:∃ow,p.tasks.getD f bl 17=ow:=⟨_,rfl⟩
 have aj:(nkP p f).tasks.getD f bl 17=ow:=ai;rw[aj] at al;have P:=hid (show etP (nkP p f) f={(if ow= -1 then stP (nkP p f) f else (stP (nkP p f) f).task ow.toNat 9 0) with tasks:=(if ow= -1 then stP (nkP p f) f else (stP (nkP p f) f).task ow.toNat 9 0).tasks.set f bl} by unfold etP;rw[aj]);have Y:=hid (show ow= -1∨∃u:Nat,ow=u∧u<p.tasks.length from by
  have I:=hi.owes (p.tasks.getD f bl) (by rw[aa,ac E];exact aw E);rw[ai] at I;exact I)
 have ab:=hid al;clear hi ht hk ho bt hf au az e1 e3 b1 k1 hh aC tn aB R E al ai aj;go_enter Tryz.func37,Tryz.ntmps37
 go_upto_region 2 with fail
 generalize World.setCell _ _ _=W1 at*;clear c1 n aD;have Q:W1.cell? ⟨wb,3,none⟩=some (.slice (some ⟨b,0,none⟩) p.tasks.length cap3):=by rw[af B1.r (k:=3) rfl,l.out]
 go_upto_region 9 with fail
 go_loopw [6] (fun i wr=>∃(j:Nat),j≤p.tasks.length∧i=.int .i64 j∧W1=wr) (fun i _=>p.tasks.length - (intOf i).toNat)
 case atStart=>exact⟨0,by omega,rfl,rfl⟩
 case round=>
  obtain⟨j,hj,rfl,rfl⟩:=hrel;by_cases aH:j<p.tasks.length
  ·have aI:(j:Int)<(p.tasks.length:Int):=by omega
   go_wp2_with fail
   exact⟨⟨j+1,by omega,by go_num,by first|rfl|trivial⟩,by simp[intOf];omega⟩
  ·obtain rfl:j=p.tasks.length:=by omega
   have aG:¬((p.tasks.length:Int)<(p.tasks.length:Int)):=by omega
   go_wp2_with fail
   refine (aq.out _ B1).mono ?_;rintro r w7 ⟨rfl,T,b7,k7⟩;have s:=hid b7;have K7:=hid (K1.trans k7);clear b7 k7 aq Q;have D:V 3=.slice (some ⟨b,0,none⟩) (stP (nkP p f) f).tasks.length cap3:=by rw[C.out];exact l
   have Q:w7.cell? ⟨wb,3,none⟩=some (.slice (some ⟨b,0,none⟩) p.tasks.length cap3):=by rw[af s.r (k:=3) rfl,l.out]
   have aF:(f:Int)<(p.tasks.length:Int):=by have:=B.out;omega
   have O:=s.taskAt D (i:=f) (by rw[C.out];exact B) (show 17<20 by omega);rw[ab.out] at O;by_cases A:ow= -1∨ow=f
   ·have M:(if ow=(f:Int) then (-1:Int) else ow)= -1:=by
     rcases A with h|h
     ·rw[h];split<;>rfl
     ·rw[ag h]
    rw[M] at O;have Z:=hid (show etP (nkP p f) f={stP (nkP p f) f with tasks:=(stP (nkP p f) f).tasks.set f bl} by
     rw[P.out];rcases A with h|h
     ·rw[ag h]
     ·rw[ae (by rw[h];omega),h,ah];exact et_self _ f)
    have y:=C;generalize stP (nkP p f) f=qq at*;have t:=s;have ad:=K7;generalize w7=a at*;clear A M D ab P Y;go_upto_region 27 with fail
    clear Q O;have z:V 3=.slice (some ⟨b,0,none⟩) qq.tasks.length cap3:=by rw[y.out];exact l
    have v:Hid (Below a.heap.size a a.drew):=hid (aA a 1);have x:=hid (fun X (h:Below a.heap.size a X)=>show X.cell? ⟨wb,3,none⟩=some (.slice (some ⟨b,0,none⟩) p.tasks.length cap3) from by rw[af (t.below h).r (k:=3) rfl,l.out]);have F:=hid (fun X (h:Below a.heap.size a X)=>(t.below h).tasksRow z (i:=f) (by rw[y.out];exact B) bl);have H:=hid (fun X (h:Below a.heap.size a X)=>(t.below h).tasksThere z (f*20) 20 (by have:=B.out;rw[y.out];omega));clear z;refine wp_region_held_drew (S:=fun X=>X.cell? ⟨wb,3,none⟩=some (.slice (some ⟨b,0,none⟩) p.tasks.length cap3)) (by kernel_rfl) (x.out _ v) (fun e=>?_);have c:=hid e;clear e;refine tk 0 (.pointer (some ⟨wb,0,none⟩)) rfl c ?_;simp only[jj];refine tk 1 (.pointer (some ⟨wb,0,none⟩)) rfl c ?_;simp only[jj];refine tk 2 (.pointer (some ⟨wb,3,none⟩)) rfl c ?_;simp only[jj];refine dV 3 (.slice (some ⟨b,0,none⟩) p.tasks.length cap3) rfl (Or.inl ⟨by rfl,fun W h=>by have h3:=h;clear h;go_simp⟩) c ?_;simp only[jj];refine tk 4 (.int .i64 f) rfl c ?_;simp only[jj];refine wpAnyH_ready (rs:=[5]) (by kernel_rfl) (by simp) (AllReadyH.cons rfl (fun K g=>?_) AllReadyH.nil);go_simp
    refine (blank_ref _).mono ?_;rintro q n ⟨rfl,L⟩;have d:=hid (btr v L);clear L;go_wp2_with fail
    refine g _ _ (x.out _ d) (fun e=>?_);have J:=hid e;clear g K e
    try simp only[Act.put,jD,jE,jF]
    refine tk 6 (.pointer (some ⟨b,f*20,none⟩)) rfl J ?_;simp only[jj];obtain⟨b1,k1⟩:=F.out _ d;have w:=hid b1;have KX:=hid (ad.trans ((aW d:Kt T T a n).trans k1));have G:=hid (show (n.setCells b (f*20) (cf 20 bl)).cell? ⟨wb,3,none⟩=some (.slice (some ⟨b,0,none⟩) p.tasks.length cap3) from by rw[af w.r (k:=3) rfl,l.out]);clear b1 k1;refine wpAnyH_ready (rs:=[7]) (by kernel_rfl) (by simp) (AllReadyH.cons rfl (fun K g=>?_) AllReadyH.nil);refine wp_store_mid 45 _ _ rfl b (f*20) (cf 20 bl).toArray rfl rfl (by rw[List.size_toArray,ax];exact H _ d) (by rw[info20];rfl) (all_oneCell_toArray (bK 20 _)) ?_;refine g _ _ G (fun _=>?_);clear g K c J
    try simp only[Act.put]
    refine dC (by kernel_rfl) ?_ _;clear x F H G v d;generalize World.setCells _ _ _ _=WX at*;rw[←Z.out] at w;go_wp2_with fail
    refine (ao.out _ _ w).mono ?_;rintro r w8 ⟨rfl,an,b8,N⟩;have U:=hid b8;have K8:=hid (KX.trans N);clear b8 N;go_wp2_with fail
    exact aY (aN rfl _ _ _) rfl ⟨rfl,an,by rw[HR.out];exact U,K8.out⟩
   ·obtain⟨u,hu,am⟩:∃u:Nat,ow=u∧u<p.tasks.length:=by
     rcases Y with h|h
     ·exact absurd (.inl h) A
     ·exact h
    have M:(if ow=(f:Int) then (-1:Int) else ow)=u:=by rw[ae (fun h=>A (.inr h)),hu]
    rw[M] at O;have Z:=hid (show etP (nkP p f) f={(stP (nkP p f) f).task u 9 0 with tasks:=((stP (nkP p f) f).task u 9 0).tasks.set f bl} by rw[P.out,ae (fun h=>A (.inl h)),hu,ah]);have aM:(u:Int)<(p.tasks.length:Int):=by omega
    have aL:0≤(u:Int):=by omega
    have xa:=s.taskAt D (i:=u) (by rw[C.out];exact am) (show 9<20 by omega);have fa:=s.tasksFr D (u*20+9);obtain⟨I,h2⟩:=s.task D (i:=u) (by rw[C.out];exact am) (show 9<20 by omega) 0;have t:=hid I;have ad:=hid (K7.trans h2);have y:=hid (show ((stP (nkP p f) f).task u 9 0).tasks.length=p.tasks.length by rw[ap];exact C);clear I h2 D A M ab P Y hu am;go_upto_region 27 with fail
    generalize World.setCell _ _ _=a at*;generalize (stP (nkP p f) f).task u 9 0=qq at*;clear Q O xa fa s K7;have z:V 3=.slice (some ⟨b,0,none⟩) qq.tasks.length cap3:=by rw[y.out];exact l
    have v:Hid (Below a.heap.size a a.drew):=hid (aA a 1);have x:=hid (fun X (h:Below a.heap.size a X)=>show X.cell? ⟨wb,3,none⟩=some (.slice (some ⟨b,0,none⟩) p.tasks.length cap3) from by rw[af (t.below h).r (k:=3) rfl,l.out]);have F:=hid (fun X (h:Below a.heap.size a X)=>(t.below h).tasksRow z (i:=f) (by rw[y.out];exact B) bl);have H:=hid (fun X (h:Below a.heap.size a X)=>(t.below h).tasksThere z (f*20) 20 (by have:=B.out;rw[y.out];omega));clear z;refine wp_region_held_drew (S:=fun X=>X.cell? ⟨wb,3,none⟩=some (.slice (some ⟨b,0,none⟩) p.tasks.length cap3)) (by kernel_rfl) (x.out _ v) (fun e=>?_);have c:=hid e;clear e;refine tk 0 (.pointer (some ⟨wb,0,none⟩)) rfl c ?_;simp only[jj];refine tk 1 (.pointer (some ⟨wb,0,none⟩)) rfl c ?_;simp only[jj];refine tk 2 (.pointer (some ⟨wb,3,none⟩)) rfl c ?_;simp only[jj];refine dV 3 (.slice (some ⟨b,0,none⟩) p.tasks.length cap3) rfl (Or.inl ⟨by rfl,fun W h=>by have h3:=h;clear h;go_simp⟩) c ?_;simp only[jj];refine tk 4 (.int .i64 f) rfl c ?_;simp only[jj];refine wpAnyH_ready (rs:=[5]) (by kernel_rfl) (by simp) (AllReadyH.cons rfl (fun K g=>?_) AllReadyH.nil);go_simp
    refine (blank_ref _).mono ?_;rintro q n ⟨rfl,L⟩;have d:=hid (btr v L);clear L;go_wp2_with fail
    refine g _ _ (x.out _ d) (fun e=>?_);have J:=hid e;clear g K e
    try simp only[Act.put,jD,jE,jF]
    refine tk 6 (.pointer (some ⟨b,f*20,none⟩)) rfl J ?_;simp only[jj];obtain⟨b1,k1⟩:=F.out _ d;have w:=hid b1;have KX:=hid (ad.trans ((aW d:Kt T T a n).trans k1));have G:=hid (show (n.setCells b (f*20) (cf 20 bl)).cell? ⟨wb,3,none⟩=some (.slice (some ⟨b,0,none⟩) p.tasks.length cap3) from by rw[af w.r (k:=3) rfl,l.out]);clear b1 k1;refine wpAnyH_ready (rs:=[7]) (by kernel_rfl) (by simp) (AllReadyH.cons rfl (fun K g=>?_) AllReadyH.nil);refine wp_store_mid 45 _ _ rfl b (f*20) (cf 20 bl).toArray rfl rfl (by rw[List.size_toArray,ax];exact H _ d) (by rw[info20];rfl) (all_oneCell_toArray (bK 20 _)) ?_;refine g _ _ G (fun _=>?_);clear g K c J
    try simp only[Act.put]
    refine dC (by kernel_rfl) ?_ _;clear x F H G v d;generalize World.setCells _ _ _ _=WX at*;rw[←Z.out] at w;go_wp2_with fail
    refine (ao.out _ _ w).mono ?_;rintro r w8 ⟨rfl,an,b8,N⟩;have U:=hid b8;have K8:=hid (KX.trans N);clear b8 N;go_wp2_with fail
    exact aY (aN rfl _ _ _) rfl ⟨rfl,an,by rw[HR.out];exact U,K8.out⟩
theorem gone_7 {m:Nat} (p:PW) (f:Nat) (W:World) (wb:Nat) (tag:Nat→Nat) (V:Nat→Value) (hi:Inv p) (ht:TL p) (hk:p.kinds[f]? =some 7) (ho:opnd p 7 f=false) (bt:BoxT W wb tag V p):
  Calls Tryz.prog 37 #[.pointer (some ⟨wb,0,none⟩),.int .i64 f] W fun r W'=>r=.returned (.tuple #[])∧∃tag',BoxT W' wb tag' V (gnF (drR m) p 7 f)∧Kt tag tag' W W':=by
 obtain⟨hf,aB⟩:=List.getElem?_eq_some_iff.1 hk;have aW:=hi.k24;have bb:(p.kinds.length:Int)≤1000:=by omega
 have a6:(f:Int)<(p.kinds.length:Int):=by omega
 have bc:(p.tasks.length:Int)≤1000:=by have:=hi.tasks;omega
 obtain⟨g1,aT,e1⟩:=bt.o.kinds.form (show 0<p.kinds.length by omega);obtain⟨g3,cap3,e3⟩:=bt.o.tasks.form (show 0<p.tasks.length by have:=hi.tasks;omega);have E1:=hid e1;have L:=hid e3;have c1:W.cell? ⟨wb,1,none⟩=some (.slice (some ⟨g1,0,none⟩) p.kinds.length aT):=by rw[af bt.r (k:=1) rfl,e1]
 have x1:=bt.kindsAt e1 hf;rw[aB] at x1;have a5:=bt.kindsFr e1 f;obtain⟨b1,k1⟩:=bt.kindsCell e1 f 0;have B1:=hid (show BoxT (W.setCell ⟨g1,f,none⟩ (.int .i64 0)) wb tag V (nkP p f) from b1);have K1:=hid k1;have hh:=nk_inv hi hk ho;have a2:(nkP p f).kinds.length=p.kinds.length:=ar ..;have tn:TL (nkP p f):=ht.of rfl rfl;have aX:(nkP p f).ram.length≤600:=by have:=hh.ram;omega
 have B:f<p.lines.length:=by rw[hi.lines];exact hf
 have az:f<p.bits.length:=by rw[hi.bits];exact hf
 have bf:(p.lines.length:Int)≤1000:=by have:=hi.lines;omega
 have bg:(p.bits.length:Int)≤1000:=by have:=hi.bits;omega
 have a7:(f:Int)<(p.lines.length:Int):=by omega
 have a8:(f:Int)<(p.bits.length:Int):=by omega
 obtain⟨b,eL⟩:=bt.o.lines.form;obtain⟨P,cap5,e5⟩:=bt.o.bits.form (show 0<p.bits.length by omega);have EL:=hid eL;have E5:=hid e5;have aL:=hid B;have aJ:=hid az;obtain⟨l,hl⟩:∃l,p.lines.getD f []=l:=⟨_,rfl⟩
 have HZ:=hid (show ∀z∈l,∃u:Nat,z=u∧u<p.tasks.length from fun z G=>hi.line _ (by rw[←hl] at G;rw[aa,ac B] at G;exact aw B) z (by rw[←hl,aa,ac B] at G;exact G));have aV:l.length≤1000:=by
  have h1:=hi.fits.line _ (aw B);have Q:=hl;rw[aa,ac B,aS] at Q;rw[Q] at h1;exact h1
 have bh:(l.length:Int)≤1000:=by omega
 have ao:=hid (fun X q (h:BoxT X wb tag V q) (e:q.lines=p.lines)=>show ∃u,X.cell? ⟨b,f,none⟩=some u∧InT X tag (12+3*f) 3 1 u (l.length,ints l) from by
  have Q:=h.o.lines;rw[e,eL] at Q;obtain⟨u,cu,H⟩:=Q.at B;unfold ci at H;rw[hl] at H;exact⟨u,cu,H⟩)
 have aD:b≠g3:=by
  intro e;have R:=bt.o.lines;rw[eL] at R;have h4:=bt.o.tasks;rw[e3] at h4;have w:=h4.2 g3 rfl;rw[←e,R.tag0.1] at w
  cases w
 have aq:=hid aD;have HL:=hid hl;have Y:=fg_help (dsP_inv hh f);have HR:=hid (show gnF (drR m) p 7 f=fwP (dsP (fgP 13 (nkP p f) f) f) 7 f by unfold gnF lsF;rw[ae (by decide),ae (by decide),ae (by decide),ae (by decide),fg_disp]);rw[←fg_disp] at Y;have tq:TL (dsP (fgP 13 (nkP p f) f) f):=tn.of (ds_tl (fgP 13 (nkP p f) f) f).1 (ds_tl (fgP 13 (nkP p f) f) f).2;have aH:=hid (fun X aG (h:BoxT X wb aG V (dsP (fgP 13 (nkP p f) f) f))=>forgetWrong_any wb aG V (dsP (fgP 13 (nkP p f) f) f) 7 f X h (Y).fits (tq).len (tq).page (tq).word (by have:=(Y).ram;have:=(Y).k24;omega));clear hi ht hk ho bt hf aB aW e1 e3 b1 k1 hh a2 tn aX Y B az eL e5 hl aV aD tq;go_enter Tryz.func37,Tryz.ntmps37
 go_upto_region 2 with fail
 generalize World.setCell _ _ _=W1 at*;clear c1 x1 a5;go_upto_region 9 with fail
 go_loopw [6] (fun i wr=>∃(j:Nat),j≤p.tasks.length∧i=.int .i64 j∧Hid (BoxT wr wb tag V {nkP p f with tasks:=mapK (fg1 13 f) j p.tasks})∧Hid (Kt tag tag W wr)) (fun i _=>p.tasks.length - (intOf i).toNat)
 case atStart=>exact⟨0,by omega,rfl,hid (by rw[mapK_zero];exact B1),K1⟩
 case round=>
  obtain⟨j,hj,rfl,c,D⟩:=hrel;have c3:wr.cell? ⟨wb,3,none⟩=some (.slice (some ⟨g3,0,none⟩) p.tasks.length cap3):=by rw[af c.r (k:=3) rfl,L.out]
  by_cases n:j<p.tasks.length
  ·have a0:(j:Int)<(p.tasks.length:Int):=by omega
   have F:j<(mapK (fg1 13 f) j p.tasks).length:=by rw[cV];exact n
   have g:V 3=.slice (some ⟨g3,0,none⟩) (mapK (fg1 13 f) j p.tasks).length cap3:=by rw[cV];exact L
   have xc:=c.tasksAt g F (show 13<20 by omega);have fc:=c.tasksFr g (j*20+13);simp only[mapK_at (fg1 13 f) j p.tasks n F] at xc;by_cases w:p.tasks[j] 13=f
   ·obtain⟨hn,aC⟩:=c.tasksCell g F (show 13<20 by omega) (-1);have HN:=hid (show BoxT (wr.setCell ⟨g3,j*20+13,none⟩ (.int .i64 (-1))) wb tag V {nkP p f with tasks:=mapK (fg1 13 f) (j+1) p.tasks} by
     rw[mapK_succ (fg1 13 f) j p.tasks n,show fg1 13 f p.tasks[j]=upd p.tasks[j] 13 (-1) from ag w, ←mapK_at (fg1 13 f) j p.tasks n F];exact hn)
    have aM:=hid (D.trans aC);rw[w] at xc;clear hn aC g w F c;go_wp2_with fail
    exact⟨⟨j+1,by omega,by go_num,HN,aM⟩,by simp[intOf];omega⟩
   ·have HN:=hid (show BoxT wr wb tag V {nkP p f with tasks:=mapK (fg1 13 f) (j+1) p.tasks} by
     rw[mapK_succ (fg1 13 f) j p.tasks n,show fg1 13 f p.tasks[j]=p.tasks[j] from ae w, ←mapK_at (fg1 13 f) j p.tasks n F,cF];exact c)
    have aZ:(p.tasks[j] 13==(f:Int))=false:=by simpa using w
    generalize p.tasks[j] 13=y at xc aZ;clear g w F c fc;go_wp2_with fail
    exact⟨⟨j+1,by omega,by go_num,HN,D⟩,by simp[intOf];omega⟩
  ·obtain rfl:j=p.tasks.length:=by omega
   have a9:¬((p.tasks.length:Int)<(p.tasks.length:Int)):=by omega
   have B2:=hid (show BoxT wr wb tag V (fgP 13 (nkP p f) f) by unfold fgP;rw[show (nkP p f).tasks=p.tasks from rfl, ←mapK_all];exact c);have K2:=D;clear c;have A:=hid (show (fgP 13 (nkP p f) f).lines=p.lines∧(fgP 13 (nkP p f) f).bits=p.bits∧(fgP 13 (nkP p f) f).tasks.length=p.tasks.length from⟨rfl,rfl,bN _⟩);generalize fgP 13 (nkP p f) f=q1 at*;generalize wr=W5 at*;obtain⟨u,cu,H⟩:=ao.out W5 q1 B2 A.1;obtain⟨q,d,v,rfl,hq⟩:=H.shape;have HQ:=hid hq;have aP:=hid cu;clear hq H cu;go_upto_region 30 with fail
   go_loopw [9] (fun i wr=>∃(j:Nat),j≤l.length∧i=.int .i64 j∧Hid (BoxT wr wb tag V ((l.take j).foldl ds1 q1))∧Hid (Kt tag tag W wr)∧Hid (wr.cell? ⟨b,f,none⟩=some (.slice q l.length v))) (fun i _=>l.length - (intOf i).toNat)
   case atStart=>exact⟨0,by omega,rfl,B2,K2,aP⟩
   case round=>
    obtain⟨j,hj,rfl,c,D,M⟩:=hrel;have ax:=hid (ds_rest (l.take j) q1);have LT:=hid (show ((l.take j).foldl ds1 q1).tasks.length=p.tasks.length by rw[ds_len];exact A.2.2);have c4:wr.cell? ⟨wb,4,none⟩=some (.slice (some ⟨b,0,none⟩) p.lines.length p.lines.length):=by rw[af c.r (k:=4) rfl,EL.out]
    have cl:=M.out;by_cases n:j<l.length
    ·have a0:(j:Int)<(l.length:Int):=by omega
     have a3:=HQ.out (by omega);subst a3;obtain⟨z,G,aj⟩:=HZ.out l[j] (aw n);have aQ:=hid G;have bj:(z:Int)<(p.tasks.length:Int):=by omega
     have O:=hid (fun X qx (h:BoxT X wb tag V qx) (e:qx.lines=p.lines) (hc:X.cell? ⟨b,f,none⟩=some (.slice (some ⟨d,0,none⟩) l.length v))=>show X.cell? ⟨wb,3,none⟩=some (.slice (some ⟨g3,0,none⟩) p.tasks.length cap3)∧X.cell? ⟨wb,4,none⟩=some (.slice (some ⟨b,0,none⟩) p.lines.length p.lines.length)∧X.cell? ⟨b,f,none⟩=some (.slice (some ⟨d,0,none⟩) l.length v)∧X.cell? ⟨d,j,none⟩=some (.int .i64 z) from⟨by rw[af h.r (k:=3) rfl,L.out],by rw[af h.r (k:=4) rfl,EL.out],hc,by
      obtain⟨u2,aU,aF⟩:=ao.out X qx h e;rw[aK (aU.symm.trans hc)] at aF;have x:=aF.int n;rw[G] at x;exact x⟩)
     have LN:=hid (show ((l.take j).foldl ds1 q1).lines=p.lines by rw[ax.out];exact A.1);have g:V 3=.slice (some ⟨g3,0,none⟩) ((l.take j).foldl ds1 q1).tasks.length cap3:=by rw[LT.out];exact L
     have I:Hid (BoxT wr.drew wb tag V ((l.take j).foldl ds1 q1)):=hid (c.below (aA wr 1));have KD:Hid (Kt tag tag W wr.drew):=hid (D.trans (.below (aA wr 1)));have xa:=I.taskAt g (i:=z) (by rw[LT.out];exact aj) (show 9<20 by omega);have fa:=I.tasksFr g (z*20+9);obtain⟨b1,Z⟩:=I.task g (i:=z) (by rw[LT.out];exact aj) (show 9<20 by omega) 0;have s:=hid (show BoxT (wr.setCell ⟨g3,z*20+9,none⟩ (.int .i64 0)).drew wb tag V (((l.take j).foldl ds1 q1).task z 9 0) from b1);have N:=hid (show Kt tag tag W (wr.setCell ⟨g3,z*20+9,none⟩ (.int .i64 0)).drew from KD.trans Z);have C6:=hid (show (wr.setCell ⟨g3,z*20+9,none⟩ (.int .i64 0)).drew.cell? ⟨b,f,none⟩=some (.slice (some ⟨d,0,none⟩) l.length v) from by
      show (wr.setCell ⟨g3,z*20+9,none⟩ (.int .i64 0)).cell? ⟨b,f,none⟩=_
      rw[aI _ _ _ _ (by intro e;cases e;exact aq rfl)];exact M)
     have S0:=hid (O.out _ _ I LN M);have S6:=hid (O.out _ _ s LN C6);clear b1 Z g;go_upto_region 32 with fail
     clear c4 cl;refine wp_region_held_drew (S:=fun X=>X.cell? ⟨wb,3,none⟩=some (.slice (some ⟨g3,0,none⟩) p.tasks.length cap3)∧X.cell? ⟨wb,4,none⟩=some (.slice (some ⟨b,0,none⟩) p.lines.length p.lines.length)∧X.cell? ⟨b,f,none⟩=some (.slice (some ⟨d,0,none⟩) l.length v)∧X.cell? ⟨d,j,none⟩=some (.int .i64 z)) (by kernel_rfl) S0 (fun T=>?_);have a:=hid T;clear T;refine tk 0 (.pointer (some ⟨wb,0,none⟩)) rfl a ?_;simp only[jj];refine tk 1 (.pointer (some ⟨wb,0,none⟩)) rfl a ?_;simp only[jj];refine tk 2 (.pointer (some ⟨wb,3,none⟩)) rfl a ?_;simp only[jj];refine dV 3 (.slice (some ⟨g3,0,none⟩) p.tasks.length cap3) rfl (Or.inl ⟨by rfl,fun W h=>by have E:=h.1;clear h;go_simp⟩) a ?_;simp only[jj];refine tk 4 (.pointer (some ⟨wb,0,none⟩)) rfl a ?_;simp only[jj];refine tk 5 (.pointer (some ⟨wb,0,none⟩)) rfl a ?_;simp only[jj];refine tk 6 (.pointer (some ⟨wb,4,none⟩)) rfl a ?_;simp only[jj];refine dV 7 (.slice (some ⟨b,0,none⟩) p.lines.length p.lines.length) rfl (Or.inl ⟨by rfl,fun W h=>by have E:=h.2.1;clear h;go_simp⟩) a ?_;simp only[jj];refine tk 8 (.int .i64 f) rfl a ?_;simp only[jj];refine tk 9 (.pointer (some ⟨b,f,none⟩)) rfl a ?_;simp only[jj];refine dV 10 (.slice (some ⟨d,0,none⟩) l.length v) rfl (Or.inl ⟨by rfl,fun W h=>by have E:=h.2.2.1;clear h;go_simp⟩) a ?_;simp only[jj];refine tk 11 (.int .i64 j) rfl a ?_;simp only[jj];refine tk 12 (.pointer (some ⟨d,j,none⟩)) rfl a ?_;simp only[jj];refine dV 13 (.int .i64 z) rfl (Or.inl ⟨by rfl,fun W h=>by have E:=h.2.2.2;clear h;go_simp⟩) a ?_;simp only[jj];refine tk 14 (.pointer (some ⟨g3,z*20,none⟩)) rfl a ?_;simp only[jj];refine tk 15 (.pointer (some ⟨g3,z*20+9,none⟩)) rfl a ?_;simp only[jj];refine wpAnyH_ready (rs:=[16]) (by kernel_rfl) (by simp) (AllReadyH.cons rfl (fun K U=>?_) AllReadyH.nil);go_simp
     refine U _ _ S6 (fun _=>?_);clear U K a
     try simp only[Act.put]
     refine dC (by kernel_rfl) ?_ _;clear xa fa S0 I KD c D M;generalize World.drew (World.setCell _ _ _)=t at*;have ai:V 3=.slice (some ⟨g3,0,none⟩) (((l.take j).foldl ds1 q1).task z 9 0).tasks.length cap3:=by rw[ap,LT.out];exact L
     have J:Hid (BoxT t.drew wb tag V (((l.take j).foldl ds1 q1).task z 9 0)):=hid (s.below (aA t 1));have KE:Hid (Kt tag tag W t.drew):=hid (N.trans (.below (aA t 1)));have xb:=J.taskAt ai (i:=z) (by rw[ap,LT.out];exact aj) (show 14<20 by omega);have fb:=J.tasksFr ai (z*20+14);obtain⟨b2,ab⟩:=J.task ai (i:=z) (by rw[ap,LT.out];exact aj) (show 14<20 by omega) (-1);have B7:=hid (show BoxT (t.setCell ⟨g3,z*20+14,none⟩ (.int .i64 (-1))).drew wb tag V ((l.take (j+1)).foldl ds1 q1) by
      rw[ds_snoc l j n,aQ.out];unfold ds1;rw[ah];exact b2)
     have K7:=hid (show Kt tag tag W (t.setCell ⟨g3,z*20+14,none⟩ (.int .i64 (-1))).drew from KE.trans ab);have C7:=hid (show (t.setCell ⟨g3,z*20+14,none⟩ (.int .i64 (-1))).drew.cell? ⟨b,f,none⟩=some (.slice (some ⟨d,0,none⟩) l.length v) from by
      show (t.setCell ⟨g3,z*20+14,none⟩ (.int .i64 (-1))).cell? ⟨b,f,none⟩=_
      rw[aI _ _ _ _ (by intro e;cases e;exact aq rfl)];exact C6)
     have aR:=hid (show ((l.take (j+1)).foldl ds1 q1).lines=p.lines by rw[ds_rest];exact A.1);have ay:=hid (O.out _ _ J LN C6);have S7:=hid (O.out _ _ B7 aR C7);clear b2 ab ai;go_upto_region 33 with fail
     refine wp_region_held_drew (S:=fun X=>X.cell? ⟨wb,3,none⟩=some (.slice (some ⟨g3,0,none⟩) p.tasks.length cap3)∧X.cell? ⟨wb,4,none⟩=some (.slice (some ⟨b,0,none⟩) p.lines.length p.lines.length)∧X.cell? ⟨b,f,none⟩=some (.slice (some ⟨d,0,none⟩) l.length v)∧X.cell? ⟨d,j,none⟩=some (.int .i64 z)) (by kernel_rfl) ay (fun T=>?_);have a:=hid T;clear T;refine tk 0 (.pointer (some ⟨wb,0,none⟩)) rfl a ?_;simp only[jj];refine tk 1 (.pointer (some ⟨wb,0,none⟩)) rfl a ?_;simp only[jj];refine tk 2 (.pointer (some ⟨wb,3,none⟩)) rfl a ?_;simp only[jj];refine dV 3 (.slice (some ⟨g3,0,none⟩) p.tasks.length cap3) rfl (Or.inl ⟨by rfl,fun W h=>by have E:=h.1;clear h;go_simp⟩) a ?_;simp only[jj];refine tk 4 (.pointer (some ⟨wb,0,none⟩)) rfl a ?_;simp only[jj];refine tk 5 (.pointer (some ⟨wb,0,none⟩)) rfl a ?_;simp only[jj];refine tk 6 (.pointer (some ⟨wb,4,none⟩)) rfl a ?_;simp only[jj];refine dV 7 (.slice (some ⟨b,0,none⟩) p.lines.length p.lines.length) rfl (Or.inl ⟨by rfl,fun W h=>by have E:=h.2.1;clear h;go_simp⟩) a ?_;simp only[jj];refine tk 8 (.int .i64 f) rfl a ?_;simp only[jj];refine tk 9 (.pointer (some ⟨b,f,none⟩)) rfl a ?_;simp only[jj];refine dV 10 (.slice (some ⟨d,0,none⟩) l.length v) rfl (Or.inl ⟨by rfl,fun W h=>by have E:=h.2.2.1;clear h;go_simp⟩) a ?_;simp only[jj];refine tk 11 (.int .i64 j) rfl a ?_;simp only[jj];refine tk 12 (.pointer (some ⟨d,j,none⟩)) rfl a ?_;simp only[jj];refine dV 13 (.int .i64 z) rfl (Or.inl ⟨by rfl,fun W h=>by have E:=h.2.2.2;clear h;go_simp⟩) a ?_;simp only[jj];refine tk 14 (.pointer (some ⟨g3,z*20,none⟩)) rfl a ?_;simp only[jj];refine tk 15 (.pointer (some ⟨g3,z*20+14,none⟩)) rfl a ?_;simp only[jj];refine wpAnyH_ready (rs:=[16]) (by kernel_rfl) (by simp) (AllReadyH.cons rfl (fun K U=>?_) AllReadyH.nil);go_simp
     refine U _ _ S7 (fun _=>?_);clear U K a
     try simp only[Act.put]
     refine dC (by kernel_rfl) ?_ _;clear xb fb S6 ay S7 J KE s N C6 O;generalize World.drew (World.setCell _ _ _)=W7 at*;go_wp2_with fail
     exact⟨⟨j+1,by omega,by go_num,B7,K7,C7⟩,by simp[intOf];omega⟩
    ·obtain rfl:j=l.length:=by omega
     have ba:¬((l.length:Int)<(l.length:Int)):=by omega
     have au:=hid (show BoxT wr wb tag V (l.foldl ds1 q1) by have h:=c.out;rw[dg] at h;exact h);have av:=hid (ds_rest l q1);generalize aE:l.foldl ds1 q1=C at*;have aO:=hid aE;have am:=hid (show C.lines=p.lines by rw[av.out];exact A.1);have al:=hid (show C.bits=p.bits by rw[av.out];exact A.2.1);clear c ax LT aE;have an:V 4=.slice (some ⟨b,0,none⟩) C.lines.length C.lines.length:=by rw[am.out];exact EL
     have fl:wr.frozen? ⟨b,f,none⟩=false:=by
      have R:=au.o.lines;rw[an] at R;exact R.fr f
     obtain⟨b1,Z⟩:=au.lineNil an (j:=f) (by rw[am.out];exact aL);have s:=hid b1;have N:=hid (D.trans Z);have ad:V 5=.slice (some ⟨P,0,none⟩) ({C with lines:=C.lines.set f []}:PW).bits.length cap5:=by show V 5=.slice (some ⟨P,0,none⟩) C.bits.length cap5;rw[al.out];exact E5
     have c5:(wr.setCell ⟨b,f,none⟩ (.slice none 0 0)).cell? ⟨wb,5,none⟩=some (.slice (some ⟨P,0,none⟩) p.bits.length cap5):=by rw[af s.r (k:=5) rfl,E5.out]
     obtain⟨yb,xb⟩:∃y,(wr.setCell ⟨b,f,none⟩ (.slice none 0 0)).cell? ⟨P,f,none⟩=some y:=⟨_,s.bitsInt ad (i:=f) (by show f<C.bits.length;rw[al.out];exact aJ)⟩
     have fb:=s.bitsFr ad f;obtain⟨b2,ab⟩:=s.bitsCell ad f 0;have B7:=hid (show BoxT ((wr.setCell ⟨b,f,none⟩ (.slice none 0 0)).setCell ⟨P,f,none⟩ (.int .i64 0)) wb tag V (dsP q1 f) by
      unfold dsP;rw[A.1,HL.out,aO.out, ←am.out,A.2.1, ←al.out];exact b2)
     have K7:=hid (N.trans ab);clear b1 Z b2 ab ad an M;go_upto_region 35 with fail
     generalize World.setCell _ _ _=t at*;clear c4 cl fl;go_upto_region 36 with fail
     generalize World.setCell _ _ _=W7 at*;clear c5 xb fb s N;go_wp2_with fail
     refine (aH.out _ _ B7).mono ?_;rintro r w9 ⟨rfl,a4,b9,k9⟩;have B9:=hid b9;have K9:=hid (K7.trans k9);clear b9 k9;go_wp2_with fail
     exact aY (aN rfl _ _ _) rfl ⟨rfl,a4,by rw[HR.out];exact B9,K9.out⟩
theorem gone_8 {m:Nat} (p:PW) (f:Nat) (W:World) (wb:Nat) (tag:Nat→Nat) (V:Nat→Value) (hi:Inv p) (ht:TL p) (hk:p.kinds[f]? =some 8) (ho:opnd p 8 f=false) (bt:BoxT W wb tag V p):
  Calls Tryz.prog 37 #[.pointer (some ⟨wb,0,none⟩),.int .i64 f] W fun r W'=>r=.returned (.tuple #[])∧∃tag',BoxT W' wb tag' V (gnF (drR m) p 8 f)∧Kt tag tag' W W':=by
 obtain⟨hf,aB⟩:=List.getElem?_eq_some_iff.1 hk;have aV:=hi.k24;have a9:(p.kinds.length:Int)≤1000:=by omega
 have a4:(f:Int)<(p.kinds.length:Int):=by omega
 have ba:(p.tasks.length:Int)≤1000:=by have:=hi.tasks;omega
 obtain⟨g1,aR,e1⟩:=bt.o.kinds.form (show 0<p.kinds.length by omega);obtain⟨g3,cap3,e3⟩:=bt.o.tasks.form (show 0<p.tasks.length by have:=hi.tasks;omega);have E1:=hid e1;have Y:=hid e3;have c1:W.cell? ⟨wb,1,none⟩=some (.slice (some ⟨g1,0,none⟩) p.kinds.length aR):=by rw[af bt.r (k:=1) rfl,e1]
 have x1:=bt.kindsAt e1 hf;rw[aB] at x1;have a3:=bt.kindsFr e1 f;obtain⟨b1,k1⟩:=bt.kindsCell e1 f 0;have B1:=hid (show BoxT (W.setCell ⟨g1,f,none⟩ (.int .i64 0)) wb tag V (nkP p f) from b1);have K1:=hid k1;have hh:=nk_inv hi hk ho;have aZ:(nkP p f).kinds.length=p.kinds.length:=ar ..;have tn:TL (nkP p f):=ht.of rfl rfl;have aW:(nkP p f).ram.length≤600:=by have:=hh.ram;omega
 have v:f<p.lines.length:=by rw[hi.lines];exact hf
 have ax:f<p.bits.length:=by rw[hi.bits];exact hf
 have bb:(p.lines.length:Int)≤1000:=by have:=hi.lines;omega
 have bc:(p.bits.length:Int)≤1000:=by have:=hi.bits;omega
 have a5:(f:Int)<(p.lines.length:Int):=by omega
 have a6:(f:Int)<(p.bits.length:Int):=by omega
 obtain⟨b,eL⟩:=bt.o.lines.form;obtain⟨J,cap5,e5⟩:=bt.o.bits.form (show 0<p.bits.length by omega);have EL:=hid eL;have E5:=hid e5;have aL:=hid v;have aJ:=hid ax;obtain⟨l,hl⟩:∃l,p.lines.getD f []=l:=⟨_,rfl⟩
 have HZ:=hid (show ∀z∈l,∃u:Nat,z=u∧u<p.tasks.length from fun z C=>hi.line _ (by rw[←hl] at C;rw[aa,ac v] at C;exact aw v) z (by rw[←hl,aa,ac v] at C;exact C));have aU:l.length≤1000:=by
  have h1:=hi.fits.line _ (aw v);have L:=hl;rw[aa,ac v,aS] at L;rw[L] at h1;exact h1
 have bf:(l.length:Int)≤1000:=by omega
 have am:=hid (fun X q (h:BoxT X wb tag V q) (e:q.lines=p.lines)=>show ∃u,X.cell? ⟨b,f,none⟩=some u∧InT X tag (12+3*f) 3 1 u (l.length,ints l) from by
  have L:=h.o.lines;rw[e,eL] at L;obtain⟨u,cu,B⟩:=L.at v;unfold ci at B;rw[hl] at B;exact⟨u,cu,B⟩)
 have aD:b≠g3:=by
  intro e;have M:=bt.o.lines;rw[eL] at M;have h4:=bt.o.tasks;rw[e3] at h4;have h6:=h4.2 g3 rfl;rw[←e,M.tag0.1] at h6
  cases h6
 have an:=hid aD;have HL:=hid hl;have az:=nk_inv7 hi hk ho (by decide);have ay:=dsP_inv (az.h (-1)) f;have P:Inv (dsP (nkP p f) f):=ay.full fun _ _ e=>e;have HR:=hid (show gnF (drR m) p 8 f=fwP (dsP (nkP p f) f) 8 f by
  unfold gnF lsF;rw[ae (by decide),ae (by decide),ae (by decide),ae (by decide),fg_none 13 (fun g hg e=>?_)];rcases P.help g hg with h1|⟨u,B,aC⟩
  ·omega
  ·have:u=f:=by omega
   subst this;rw[ds_kinds] at aC;exact (nk_get aC (by decide)).2 rfl)
 have tq:TL (dsP (nkP p f) f):=tn.of (ds_tl (nkP p f) f).1 (ds_tl (nkP p f) f).2;have aH:=hid (fun X aG (h:BoxT X wb aG V (dsP (nkP p f) f))=>forgetWrong_any wb aG V (dsP (nkP p f) f) 8 f X h (P).fits (tq).len (tq).page (tq).word (by have:=(P).ram;have:=(P).k24;omega));clear hi ht hk ho bt hf aB aV e1 e3 b1 k1 hh aZ tn aW P v ax eL e5 hl aU aD tq az ay;go_enter Tryz.func37,Tryz.ntmps37
 go_upto_region 2 with fail
 generalize World.setCell _ _ _=W1 at*;clear c1 x1 a3;have c3:W1.cell? ⟨wb,3,none⟩=some (.slice (some ⟨g3,0,none⟩) p.tasks.length cap3):=by rw[af B1.r (k:=3) rfl,Y.out]
 go_upto_region 9 with fail
 go_loopw [6] (fun i wr=>∃(j:Nat),j≤p.tasks.length∧i=.int .i64 j∧W1=wr) (fun i _=>p.tasks.length - (intOf i).toNat)
 case atStart=>exact⟨0,by omega,rfl,rfl⟩
 case round=>
  obtain⟨j,hj,rfl,rfl⟩:=hrel;by_cases ad:j<p.tasks.length
  ·have aX:(j:Int)<(p.tasks.length:Int):=by omega
   go_wp2_with fail
   exact⟨⟨j+1,by omega,by go_num,by first|rfl|trivial⟩,by simp[intOf];omega⟩
  ·obtain rfl:j=p.tasks.length:=by omega
   have a7:¬((p.tasks.length:Int)<(p.tasks.length:Int)):=by omega
   have t:=hid (show (nkP p f).lines=p.lines∧(nkP p f).bits=p.bits∧(nkP p f).tasks.length=p.tasks.length from⟨rfl,rfl,rfl⟩);generalize nkP p f=q1 at*;have B2:=B1;have K2:=K1;generalize W1=W5 at*;obtain⟨u,cu,B⟩:=am.out W5 q1 B2 t.1;obtain⟨q,c,s,rfl,hq⟩:=B.shape;have HQ:=hid hq;have aO:=hid cu;clear hq B cu;go_upto_region 30 with fail
   go_loopw [9] (fun i wr=>∃(j:Nat),j≤l.length∧i=.int .i64 j∧Hid (BoxT wr wb tag V ((l.take j).foldl ds1 q1))∧Hid (Kt tag tag W wr)∧Hid (wr.cell? ⟨b,f,none⟩=some (.slice q l.length s))) (fun i _=>l.length - (intOf i).toNat)
   case atStart=>exact⟨0,by omega,rfl,B2,K2,aO⟩
   case round=>
    obtain⟨j,hj,rfl,G,HK,F⟩:=hrel;have au:=hid (ds_rest (l.take j) q1);have LT:=hid (show ((l.take j).foldl ds1 q1).tasks.length=p.tasks.length by rw[ds_len];exact t.2.2);have c4:wr.cell? ⟨wb,4,none⟩=some (.slice (some ⟨b,0,none⟩) p.lines.length p.lines.length):=by rw[af G.r (k:=4) rfl,EL.out]
    have cl:=F.out;by_cases ad:j<l.length
    ·have aX:(j:Int)<(l.length:Int):=by omega
     have a0:=HQ.out (by omega);subst a0;obtain⟨z,C,ag⟩:=HZ.out l[j] (aw ad);have aP:=hid C;have bg:(z:Int)<(p.tasks.length:Int):=by omega
     have I:=hid (fun X qx (h:BoxT X wb tag V qx) (e:qx.lines=p.lines) (hc:X.cell? ⟨b,f,none⟩=some (.slice (some ⟨c,0,none⟩) l.length s))=>show X.cell? ⟨wb,3,none⟩=some (.slice (some ⟨g3,0,none⟩) p.tasks.length cap3)∧X.cell? ⟨wb,4,none⟩=some (.slice (some ⟨b,0,none⟩) p.lines.length p.lines.length)∧X.cell? ⟨b,f,none⟩=some (.slice (some ⟨c,0,none⟩) l.length s)∧X.cell? ⟨c,j,none⟩=some (.int .i64 z) from⟨by rw[af h.r (k:=3) rfl,Y.out],by rw[af h.r (k:=4) rfl,EL.out],hc,by
      obtain⟨u2,aT,aF⟩:=am.out X qx h e;rw[aK (aT.symm.trans hc)] at aF;have x:=aF.int ad;rw[C] at x;exact x⟩)
     have LN:=hid (show ((l.take j).foldl ds1 q1).lines=p.lines by rw[au.out];exact t.1);have he:V 3=.slice (some ⟨g3,0,none⟩) ((l.take j).foldl ds1 q1).tasks.length cap3:=by rw[LT.out];exact Y
     have D:Hid (BoxT wr.drew wb tag V ((l.take j).foldl ds1 q1)):=hid (G.below (aA wr 1));have KD:Hid (Kt tag tag W wr.drew):=hid (HK.trans (.below (aA wr 1)));have xa:=D.taskAt he (i:=z) (by rw[LT.out];exact ag) (show 9<20 by omega);have fa:=D.tasksFr he (z*20+9);obtain⟨b1,Q⟩:=D.task he (i:=z) (by rw[LT.out];exact ag) (show 9<20 by omega) 0;have d:=hid (show BoxT (wr.setCell ⟨g3,z*20+9,none⟩ (.int .i64 0)).drew wb tag V (((l.take j).foldl ds1 q1).task z 9 0) from b1);have H:=hid (show Kt tag tag W (wr.setCell ⟨g3,z*20+9,none⟩ (.int .i64 0)).drew from KD.trans Q);have U:=hid (show (wr.setCell ⟨g3,z*20+9,none⟩ (.int .i64 0)).drew.cell? ⟨b,f,none⟩=some (.slice (some ⟨c,0,none⟩) l.length s) from by
      show (wr.setCell ⟨g3,z*20+9,none⟩ (.int .i64 0)).cell? ⟨b,f,none⟩=_
      rw[aI _ _ _ _ (by intro e;cases e;exact an rfl)];exact F)
     have S0:=hid (I.out _ _ D LN F);have S6:=hid (I.out _ _ d LN U);clear b1 Q he;go_upto_region 32 with fail
     clear c4 cl;refine wp_region_held_drew (S:=fun X=>X.cell? ⟨wb,3,none⟩=some (.slice (some ⟨g3,0,none⟩) p.tasks.length cap3)∧X.cell? ⟨wb,4,none⟩=some (.slice (some ⟨b,0,none⟩) p.lines.length p.lines.length)∧X.cell? ⟨b,f,none⟩=some (.slice (some ⟨c,0,none⟩) l.length s)∧X.cell? ⟨c,j,none⟩=some (.int .i64 z)) (by kernel_rfl) S0 (fun N=>?_);have a:=hid N;clear N;refine tk 0 (.pointer (some ⟨wb,0,none⟩)) rfl a ?_;simp only[jj];refine tk 1 (.pointer (some ⟨wb,0,none⟩)) rfl a ?_;simp only[jj];refine tk 2 (.pointer (some ⟨wb,3,none⟩)) rfl a ?_;simp only[jj];refine dV 3 (.slice (some ⟨g3,0,none⟩) p.tasks.length cap3) rfl (Or.inl ⟨by rfl,fun W h=>by have A:=h.1;clear h;go_simp⟩) a ?_;simp only[jj];refine tk 4 (.pointer (some ⟨wb,0,none⟩)) rfl a ?_;simp only[jj];refine tk 5 (.pointer (some ⟨wb,0,none⟩)) rfl a ?_;simp only[jj];refine tk 6 (.pointer (some ⟨wb,4,none⟩)) rfl a ?_;simp only[jj];refine dV 7 (.slice (some ⟨b,0,none⟩) p.lines.length p.lines.length) rfl (Or.inl ⟨by rfl,fun W h=>by have A:=h.2.1;clear h;go_simp⟩) a ?_;simp only[jj];refine tk 8 (.int .i64 f) rfl a ?_;simp only[jj];refine tk 9 (.pointer (some ⟨b,f,none⟩)) rfl a ?_;simp only[jj];refine dV 10 (.slice (some ⟨c,0,none⟩) l.length s) rfl (Or.inl ⟨by rfl,fun W h=>by have A:=h.2.2.1;clear h;go_simp⟩) a ?_;simp only[jj];refine tk 11 (.int .i64 j) rfl a ?_;simp only[jj];refine tk 12 (.pointer (some ⟨c,j,none⟩)) rfl a ?_;simp only[jj];refine dV 13 (.int .i64 z) rfl (Or.inl ⟨by rfl,fun W h=>by have A:=h.2.2.2;clear h;go_simp⟩) a ?_;simp only[jj];refine tk 14 (.pointer (some ⟨g3,z*20,none⟩)) rfl a ?_;simp only[jj];refine tk 15 (.pointer (some ⟨g3,z*20+9,none⟩)) rfl a ?_;simp only[jj];refine wpAnyH_ready (rs:=[16]) (by kernel_rfl) (by simp) (AllReadyH.cons rfl (fun K O=>?_) AllReadyH.nil);go_simp
     refine O _ _ S6 (fun _=>?_);clear O K a
     try simp only[Act.put]
     refine dC (by kernel_rfl) ?_ _;clear xa fa S0 D KD G HK F;generalize World.drew (World.setCell _ _ _)=n at*;have ab:V 3=.slice (some ⟨g3,0,none⟩) (((l.take j).foldl ds1 q1).task z 9 0).tasks.length cap3:=by rw[ap,LT.out];exact Y
     have E:Hid (BoxT n.drew wb tag V (((l.take j).foldl ds1 q1).task z 9 0)):=hid (d.below (aA n 1));have KE:Hid (Kt tag tag W n.drew):=hid (H.trans (.below (aA n 1)));have xb:=E.taskAt ab (i:=z) (by rw[ap,LT.out];exact ag) (show 14<20 by omega);have fb:=E.tasksFr ab (z*20+14);obtain⟨b2,R⟩:=E.task ab (i:=z) (by rw[ap,LT.out];exact ag) (show 14<20 by omega) (-1);have T:=hid (show BoxT (n.setCell ⟨g3,z*20+14,none⟩ (.int .i64 (-1))).drew wb tag V ((l.take (j+1)).foldl ds1 q1) by
      rw[ds_snoc l j ad,aP.out];unfold ds1;rw[ah];exact b2)
     have K7:=hid (show Kt tag tag W (n.setCell ⟨g3,z*20+14,none⟩ (.int .i64 (-1))).drew from KE.trans R);have C7:=hid (show (n.setCell ⟨g3,z*20+14,none⟩ (.int .i64 (-1))).drew.cell? ⟨b,f,none⟩=some (.slice (some ⟨c,0,none⟩) l.length s) from by
      show (n.setCell ⟨g3,z*20+14,none⟩ (.int .i64 (-1))).cell? ⟨b,f,none⟩=_
      rw[aI _ _ _ _ (by intro e;cases e;exact an rfl)];exact U)
     have aQ:=hid (show ((l.take (j+1)).foldl ds1 q1).lines=p.lines by rw[ds_rest];exact t.1);have av:=hid (I.out _ _ E LN U);have S7:=hid (I.out _ _ T aQ C7);clear b2 R ab;go_upto_region 33 with fail
     refine wp_region_held_drew (S:=fun X=>X.cell? ⟨wb,3,none⟩=some (.slice (some ⟨g3,0,none⟩) p.tasks.length cap3)∧X.cell? ⟨wb,4,none⟩=some (.slice (some ⟨b,0,none⟩) p.lines.length p.lines.length)∧X.cell? ⟨b,f,none⟩=some (.slice (some ⟨c,0,none⟩) l.length s)∧X.cell? ⟨c,j,none⟩=some (.int .i64 z)) (by kernel_rfl) av (fun N=>?_);have a:=hid N;clear N;refine tk 0 (.pointer (some ⟨wb,0,none⟩)) rfl a ?_;simp only[jj];refine tk 1 (.pointer (some ⟨wb,0,none⟩)) rfl a ?_;simp only[jj];refine tk 2 (.pointer (some ⟨wb,3,none⟩)) rfl a ?_;simp only[jj];refine dV 3 (.slice (some ⟨g3,0,none⟩) p.tasks.length cap3) rfl (Or.inl ⟨by rfl,fun W h=>by have A:=h.1;clear h;go_simp⟩) a ?_;simp only[jj];refine tk 4 (.pointer (some ⟨wb,0,none⟩)) rfl a ?_;simp only[jj];refine tk 5 (.pointer (some ⟨wb,0,none⟩)) rfl a ?_;simp only[jj];refine tk 6 (.pointer (some ⟨wb,4,none⟩)) rfl a ?_;simp only[jj];refine dV 7 (.slice (some ⟨b,0,none⟩) p.lines.length p.lines.length) rfl (Or.inl ⟨by rfl,fun W h=>by have A:=h.2.1;clear h;go_simp⟩) a ?_;simp only[jj];refine tk 8 (.int .i64 f) rfl a ?_;simp only[jj];refine tk 9 (.pointer (some ⟨b,f,none⟩)) rfl a ?_;simp only[jj];refine dV 10 (.slice (some ⟨c,0,none⟩) l.length s) rfl (Or.inl ⟨by rfl,fun W h=>by have A:=h.2.2.1;clear h;go_simp⟩) a ?_;simp only[jj];refine tk 11 (.int .i64 j) rfl a ?_;simp only[jj];refine tk 12 (.pointer (some ⟨c,j,none⟩)) rfl a ?_;simp only[jj];refine dV 13 (.int .i64 z) rfl (Or.inl ⟨by rfl,fun W h=>by have A:=h.2.2.2;clear h;go_simp⟩) a ?_;simp only[jj];refine tk 14 (.pointer (some ⟨g3,z*20,none⟩)) rfl a ?_;simp only[jj];refine tk 15 (.pointer (some ⟨g3,z*20+14,none⟩)) rfl a ?_;simp only[jj];refine wpAnyH_ready (rs:=[16]) (by kernel_rfl) (by simp) (AllReadyH.cons rfl (fun K O=>?_) AllReadyH.nil);go_simp
     refine O _ _ S7 (fun _=>?_);clear O K a
     try simp only[Act.put]
     refine dC (by kernel_rfl) ?_ _;clear xb fb S6 av S7 E KE d H U I;generalize World.drew (World.setCell _ _ _)=W7 at*;go_wp2_with fail
     exact⟨⟨j+1,by omega,by go_num,T,K7,C7⟩,by simp[intOf];omega⟩
    ·obtain rfl:j=l.length:=by omega
     have a8:¬((l.length:Int)<(l.length:Int)):=by omega
     have ao:=hid (show BoxT wr wb tag V (l.foldl ds1 q1) by have h:=G.out;rw[dg] at h;exact h);have aq:=hid (ds_rest l q1);generalize aE:l.foldl ds1 q1=w at*;have aM:=hid aE;have aj:=hid (show w.lines=p.lines by rw[aq.out];exact t.1);have ai:=hid (show w.bits=p.bits by rw[aq.out];exact t.2.1);clear G au LT aE;have al:V 4=.slice (some ⟨b,0,none⟩) w.lines.length w.lines.length:=by rw[aj.out];exact EL
     have fl:wr.frozen? ⟨b,f,none⟩=false:=by
      have M:=ao.o.lines;rw[al] at M;exact M.fr f
     obtain⟨b1,Q⟩:=ao.lineNil al (j:=f) (by rw[aj.out];exact aL);have d:=hid b1;have H:=hid (HK.trans Q);have Z:V 5=.slice (some ⟨J,0,none⟩) ({w with lines:=w.lines.set f []}:PW).bits.length cap5:=by show V 5=.slice (some ⟨J,0,none⟩) w.bits.length cap5;rw[ai.out];exact E5
     have c5:(wr.setCell ⟨b,f,none⟩ (.slice none 0 0)).cell? ⟨wb,5,none⟩=some (.slice (some ⟨J,0,none⟩) p.bits.length cap5):=by rw[af d.r (k:=5) rfl,E5.out]
     obtain⟨yb,xb⟩:∃y,(wr.setCell ⟨b,f,none⟩ (.slice none 0 0)).cell? ⟨J,f,none⟩=some y:=⟨_,d.bitsInt Z (i:=f) (by show f<w.bits.length;rw[ai.out];exact aJ)⟩
     have fb:=d.bitsFr Z f;obtain⟨b2,R⟩:=d.bitsCell Z f 0;have T:=hid (show BoxT ((wr.setCell ⟨b,f,none⟩ (.slice none 0 0)).setCell ⟨J,f,none⟩ (.int .i64 0)) wb tag V (dsP q1 f) by
      unfold dsP;rw[t.1,HL.out,aM.out, ←aj.out,t.2.1, ←ai.out];exact b2)
     have K7:=hid (H.trans R);clear b1 Q b2 R Z al F;go_upto_region 35 with fail
     generalize World.setCell _ _ _=n at*;clear c4 cl fl;go_upto_region 36 with fail
     generalize World.setCell _ _ _=W7 at*;clear c5 xb fb d H;go_wp2_with fail
     refine (aH.out _ _ T).mono ?_;rintro r w9 ⟨rfl,a2,b9,k9⟩;have B9:=hid b9;have K9:=hid (K7.trans k9);clear b9 k9;go_wp2_with fail
     exact aY (aN rfl _ _ _) rfl ⟨rfl,a2,by rw[HR.out];exact B9,K9.out⟩
end Go.Proofs.YtaejnmmpddbbjaaGreatDoor.Wd
