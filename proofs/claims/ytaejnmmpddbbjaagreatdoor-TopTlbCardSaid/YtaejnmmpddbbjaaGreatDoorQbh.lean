/- Qbh -/
import Derived.Test.YtaejnmmpddbbjaaGreatDoorQbg
set_option maxRecDepth 100000
set_option maxHeartbeats 16000000
namespace Go.Proofs.YtaejnmmpddbbjaaGreatDoor
namespace Wd
open Go.RowKit Mem Bw Nums Mmu
theorem vO (l:List Ent) (e:Ent):0<(kZ l e).length:=by
 unfold kZ iZ;rw[dD,av,List.length_singleton];omega
theorem yI {l:List Ent} {s a:Int} {e:Ent} (h:hD l s a=(e,true)):e∈l∧pg s a e=true:=by
 unfold hD at h;split at h
 ·rename_i hlt;injection h with g _
  rw[<-g];exact⟨aw hlt,dS (w:=hlt)⟩
 ·injection h with _ g
  cases g
theorem xi {p:PW} {l:List Ent} (hl:TlO p l) (s a:Int) (wr:Bool):(fC p.Eb l s a wr).1=(fC p.Eb [] s a wr).1∧(fC p.Eb l s a wr).2.2=(fC p.Eb [] s a wr).2.2∧(fC p.Eb l s a wr).2.1.length<=4∧((fC p.Eb l s a wr).2.2=0->0<(fC p.Eb l s a wr).2.1.length):=by
 unfold fC;by_cases c1:¬inb p.Eb.length s a
 ·rw[af c1,af c1];exact⟨rfl,rfl,oD,fun h=>by cases h⟩
 rw[ae c1,ae c1];have c1:=Decidable.not_not.1 c1;have u:0<=a∧a<4096:=⟨c1.2.2.2.2.1,c1.2.2.2.2.2⟩;have n0:hD [] s (a/16)=((0,0,0,false),false):=pM oS;obtain⟨f,c⟩:∃f,hD l s (a/16)=f:=⟨_,rfl⟩
 obtain⟨e,ok⟩:=f
 cases ok with
 |true=>
  obtain⟨q,r⟩:=yI c;obtain⟨x,y,t,b⟩:=e;have i:=hl.t _ q;unfold eG at i;unfold pg at r;simp only[al,bh,aR] at i r;obtain⟨_,⟨j,m⟩,o⟩:=i;obtain⟨rfl,rfl⟩:x=s∧y=a/16:=oA;have z:ei p.Eb x a=(t,b,0):=by
   rw[vj _ _ _ u] at j m o;exact Prod.ext m (Prod.ext o j)
  rw[jB c,j9 n0 z];have v:=hl.n;have w:0<l.length:=List.length_pos_of_mem q;simp only[ne_eq,not_true_eq_false,if_false];split
  ·exact⟨rfl,rfl,oD,fun h=>by cases h⟩
  ·exact⟨rfl,rfl,v,fun _=>w⟩
 |false=>
  obtain⟨g,d⟩:∃g,ei p.Eb s a=g:=⟨_,rfl⟩
  obtain⟨t,b,k⟩:=g;by_cases hk:k=0
  ·subst hk;rw[j9 c d,j9 n0 d];simp only[ne_eq,not_true_eq_false,if_false];split
   ·exact⟨rfl,rfl,oD,fun h=>by cases h⟩
   ·exact⟨rfl,rfl,jv _,fun _=>vO _ _⟩
  ·rw[oW c d hk,oW n0 d hk];rw[af hk];exact⟨rfl,rfl,bF 4,fun h=>absurd h hk⟩
end Wd
namespace Mmu
open Go.RowKit Mem Bw Nums
theorem iJ (v:Value) (zs:List Int) (s a:Int) (w:World) (g:lY w v zs):
  Calls Tryz.prog 21 #[v,.int .i64 s,.int .i64 a] w fun e w'=>e=.returned (.bool (decide (inb zs.length s a)))∧w=w':=by
 obtain⟨⟨q,b,cap,rfl,f,h⟩,_,hl⟩:=g;have n:(zs.length:Int)<=600:=oA;clear f h;by_cases c:(zs.length:Int)%16=0
 ·have d:((zs.length:Int)%16 !=0)=false:=by rw[bne_eq_false_iff_eq];exact c
  by_cases i:24<(zs.length:Int)/16
  ·have e:decide (inb zs.length s a)=false:=ax (by unfold inb;omega);rw[e];clear e c;go_enter Tryz.func21,Tryz.ntmps21
   go_wp2_with fail
   go_ret
   exact⟨rfl,rfl⟩
  ·by_cases j:0<=s
   ·by_cases k:s<(zs.length:Int)/16
    ·by_cases l:0<=a
     ·by_cases m:a<4096
      ·have e:decide (inb zs.length s a)=true:=aD (by unfold inb;omega);rw[e];clear e c;go_enter Tryz.func21,Tryz.ntmps21
       go_wp2_with fail
       go_ret
       exact⟨rfl,rfl⟩
      ·have e:decide (inb zs.length s a)=false:=ax (by unfold inb;omega);rw[e];clear e c;go_enter Tryz.func21,Tryz.ntmps21
       go_wp2_with fail
       go_ret
       exact⟨rfl,rfl⟩
     ·have e:decide (inb zs.length s a)=false:=ax (by unfold inb;omega);rw[e];clear e c;go_enter Tryz.func21,Tryz.ntmps21
      go_wp2_with fail
      go_ret
      exact⟨rfl,rfl⟩
    ·have e:decide (inb zs.length s a)=false:=ax (by unfold inb;omega);rw[e];clear e c;go_enter Tryz.func21,Tryz.ntmps21
     go_wp2_with fail
     go_ret
     exact⟨rfl,rfl⟩
   ·have e:decide (inb zs.length s a)=false:=ax (by unfold inb;omega);rw[e];clear e c;go_enter Tryz.func21,Tryz.ntmps21
    go_wp2_with fail
    go_ret
    exact⟨rfl,rfl⟩
 ·have d:((zs.length:Int)%16 !=0)=true:=by rw[bne_iff_ne];exact c
  have e:decide (inb zs.length s a)=false:=ax (by unfold inb;omega);rw[e];clear e c;go_enter Tryz.func21,Tryz.ntmps21
  go_wp2_with fail
  go_ret
  exact⟨rfl,rfl⟩
theorem ml (v:Value) (zs:List Int) (f k:Int) (w:World) (z:lY w v zs) (A:0<=f) (D:0<=k) (hk:f*16+k<zs.length) (x:Int) (c:zs[(f*16+k).toNat]? =some x) (h:isE x ((zs.length:Int)/16)):
  Calls Tryz.prog 93 #[v,.int .i64 f,.int .i64 k] w fun e w'=>e=.returned (.tuple #[.int .i64 (x%1024),.bool (decide (x/16384%2=1)),.bool true])∧w=w':=by
 obtain⟨⟨q,b,cap,rfl,j,n⟩,l,hl⟩:=z;have a:(f*16+k).toNat<zs.length:=oA;have y:=j oA;subst y;have u:=n _ a;rw[ac a] at c;have d:=aH c;rw[d,az] at u;have m:=l _ (aw a);rw[d] at m;obtain⟨o,p⟩:=m;have i0:0<=f*16+k:=oA;have e10:=uo x;have i:=Aj x o p;have g:=Ai x o p;have B:f<100:=oA;have E:k<1000:=oA;unfold isE at h;have s:=hid (show (bits .and .i64 x 16384 !=0)=decide (x/16384%2=1) by rw[g,dy,bne_iff_ne,decide_eq_true_iff];omega);have t:(bits .and .i64 x 32768==0)=false:=by rw[i];exact beq_eq_false_iff_ne.2 oA
 have C:¬((zs.length:Int)/16<=x%1024):=oA;clear j n l c d h g i;go_enter Tryz.func93,Tryz.ntmps93
 go_wp2_with fail
 refine (oC x _ t).mono ?_;rintro r w1 ⟨rfl,rfl⟩;go_wp2_with fail
 go_ret3
 exact⟨by rw[<-s.out];rfl,rfl⟩
theorem oj (v:Value) (zs:List Int) (f k:Int) (w:World) (z:lY w v zs) (A:0<=f) (D:0<=k) (hk:f*16+k<zs.length) (x:Int) (c:zs[(f*16+k).toNat]? =some x) (h:¬isE x ((zs.length:Int)/16)):
  Calls Tryz.prog 93 #[v,.int .i64 f,.int .i64 k] w fun e w'=>e=.returned (.tuple #[.int .i64 0,.bool false,.bool false])∧w=w':=by
 obtain⟨⟨q,b,cap,rfl,l,n⟩,m,hl⟩:=z;have j:(f*16+k).toNat<zs.length:=oA;have y:=l oA;subst y;have u:=n _ j;rw[ac j] at c;have d:=aH c;rw[d,az] at u;have o:=m _ (aw j);rw[d] at o;obtain⟨p,s⟩:=o;have i0:0<=f*16+k:=oA;have e10:=uo x;have a:=Aj x p s;have t:=Ai x p s;have B:f<100:=oA;have E:k<1000:=oA;unfold isE at h;clear t;by_cases g:x/32768%2=0
 ·have i:(bits .and .i64 x 32768==0)=true:=by rw[a,g];rfl
  clear l n m c d h a g;go_enter Tryz.func93,Tryz.ntmps93
  go_wp2_with fail
  refine (wk x _ i).mono ?_;rintro r w1 ⟨rfl,rfl⟩;go_wp2_with fail
  go_ret3
  exact⟨rfl,rfl⟩
 ·have i:(bits .and .i64 x 32768==0)=false:=by rw[a];exact beq_eq_false_iff_ne.2 oA
  have C:(zs.length:Int)/16<=x%1024:=oA;clear l n m c d h a g;go_enter Tryz.func93,Tryz.ntmps93
  go_wp2_with fail
  refine (oC x _ i).mono ?_;rintro r w1 ⟨rfl,rfl⟩;go_wp2_with fail
  go_ret3
  exact⟨rfl,rfl⟩
theorem xp (v:Value) (zs:List Int) (s a:Int) (w:World) (r:lY w v zs):
  Calls Tryz.prog 54 #[v,.int .i64 s,.int .i64 a] w fun e w'=>e=.returned (.tuple #[.int .i64 (ei zs s a).1,.bool (ei zs s a).2.1,kX (ei zs s a).2.2])∧w=w':=by
 have f:=hid r;clear r;have m:=hid (iJ v zs s a w f);by_cases h:inb zs.length s a
 ·obtain⟨k,g,d1⟩:=DF h;have d:=hid (show decide (inb zs.length s a)=true from aD h);have a0:0<=a:=by unfold inb at h;omega
  have a1:a<4096:=by unfold inb at h;omega
  have i:=oq (zs:=zs) (j:=(s*16+a/256).toNat) oA;by_cases b:isE (e1 zs s a) (n16 zs)
  ·obtain⟨p,d2,n⟩:=DG h b;have o:=oq (zs:=zs) (j:=(e1 zs s a%1024*16+a/16%16).toNat) oA;have l:=hid (ml v zs s (a/256) w f k g d1 _ i b);by_cases c:isE (e2 zs (e1 zs s a%1024) a) (n16 zs)
   ·have q:=hid (ml v zs (e1 zs s a%1024) (a/16%16) w f p d2 n _ o c);rw[jK h b c];clear h b c i o g d1 d2 n k p;go_enter Tryz.func54,Tryz.ntmps54
    go_wp2_with fail
    refine m.mono ?_;rintro e w' ⟨rfl,rfl⟩;rw[d.out];go_wp2_with fail
    refine l.mono ?_;rintro e w' ⟨rfl,rfl⟩;go_wp2_with fail
    refine q.mono ?_;rintro e w' ⟨rfl,rfl⟩;go_wp2_with fail
    go_ret3
    exact⟨rfl,rfl⟩
   ·have q:=hid (oj v zs (e1 zs s a%1024) (a/16%16) w f p d2 n _ o c);rw[lS h b c];clear h b c i o g d1 d2 n k p;go_enter Tryz.func54,Tryz.ntmps54
    go_wp2_with fail
    refine m.mono ?_;rintro e w' ⟨rfl,rfl⟩;rw[d.out];go_wp2_with fail
    refine l.mono ?_;rintro e w' ⟨rfl,rfl⟩;go_wp2_with fail
    refine q.mono ?_;rintro e w' ⟨rfl,rfl⟩;go_wp2_with fail
    go_ret3
    exact⟨rfl,rfl⟩
  ·have l:=hid (oj v zs s (a/256) w f k g d1 _ i b);rw[lR h b];clear h b i g d1 k;go_enter Tryz.func54,Tryz.ntmps54
   go_wp2_with fail
   refine m.mono ?_;rintro e w' ⟨rfl,rfl⟩;rw[d.out];go_wp2_with fail
   refine l.mono ?_;rintro e w' ⟨rfl,rfl⟩;go_wp2_with fail
   go_ret3
   exact⟨rfl,rfl⟩
 ·have d:=hid (show decide (inb zs.length s a)=false from ax h);rw[iu h];clear h;go_enter Tryz.func54,Tryz.ntmps54
  go_wp2_with fail
  refine m.mono ?_;rintro e w' ⟨rfl,rfl⟩;rw[d.out];go_wp2_with fail
  go_ret3
  exact⟨rfl,rfl⟩
