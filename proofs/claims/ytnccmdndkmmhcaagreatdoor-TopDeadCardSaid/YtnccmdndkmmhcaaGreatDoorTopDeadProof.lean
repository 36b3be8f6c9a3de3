import Derived.Test.YtnccmdndkmmhcaaGreatDoorCards
import Derived.Test.YtnccmdndkmmhcaaGreatDoorTie
import Derived.SevenTiedAt
import Derived.Lay
import Derived.OpenShut
import Derived.ChangeOld
import Derived.Below
import Derived.Test.YtnccmdndkmmhcaaGreatDoorQbr
set_option maxRecDepth 100000
set_option maxHeartbeats 16000000
namespace Go.Proofs.YtnccmdndkmmhcaaGreatDoor
open Go.ChangeShapes Go.WideShapes Go.RowKit
open Mem
abbrev gn:List (String×DataW Unit):=[("keyhold/keyholdref.names",Rows.laid_keyhold_keyholdref_names),("keyhold/keyholdref.kindNames",Rows.laid_keyhold_keyholdref_kindNames)]
theorem sV (os:Os) (b:Array Value):laidMetH Tryz.prog Rows.topDeadRow.laid (((World.holding Tryz.prog os ⟨#[],#[],[]⟩).layVars Tryz.prog gn).forCall (fun _ _=>0) ⟨#[],b,[]⟩).memory:=by
 refine laidMetH_of_parts ?_ oK;have e1:(gn.filter fun x=>(gn.map (·.1)).contains x.1)=gn:=List.filter_eq_self.2 fun x a=>List.contains_iff_mem.2 (List.mem_map.2 ⟨x,a,rfl⟩);have e2:(gn.filter fun x=> !(gn.map (·.1)).contains x.1)=[]:=List.filter_eq_nil_iff.2 fun x a=>by rw[List.contains_iff_mem.2 (List.mem_map.2 ⟨x,a,rfl⟩)];simp
 have h:laidMet Tryz.prog gn ((World.holding Tryz.prog os ⟨#[],#[],[]⟩).layVars Tryz.prog gn):=
  laidMet_layVars (w0:=(World.holding Tryz.prog os ⟨#[],#[],[]⟩)) (gn.map (·.1)) [] (by rw[e1]) (by rw[e1];kernel_rfl) (by rw[e1];kernel_rfl) (by rw[e2];exact LaidIn.none)
 exact h.of_heap (by simp[World.memory,World.forCall,Input.heap])
theorem nE (os:Os) (M:os.Started) (H:Type) (enc:TypeId×Value->H):
  ReturnsInHanded {} Tryz.checked os 7 .any (fun w b=>(Rows.topDeadSpec.pre enc Tryz.prog Tryz.f7 [] false w b∧laidMetH Tryz.prog Rows.topDeadRow.laid w)∧sizedMet enc Tryz.prog Tryz.f7 (OpenSpec.ofChange Rows.topDeadSpec) false w b)
   (Rows.topDeadSpec.post enc Tryz.prog Tryz.f7 false true false false):=by
 refine returnsInHanded_of_change_and (C:=Tryz.checked) (X:=fun w _=>laidMetH Tryz.prog Rows.topDeadRow.laid w) (fun _ _ _ hh h=>h.of_heap hh) own M oK Tryz.func7
  (ChangeSpec.witness_shaped (enc:=enc) (C:=Tryz.checked) (os:=os) (X:=fun w _=>laidMetH Tryz.prog Rows.topDeadRow.laid w) false ((World.holding Tryz.prog os ⟨#[],#[],[]⟩).layVars Tryz.prog gn) #[.slice none 0 0,.int .i64 0,.int .i64 0,.int .i64 0] 8 ((World.layVars_os _ _ _).trans rfl) (World.shaped_of_ZipB oK oK) oK oK oK (sV os _)) ?_
 intro W base b ds Z O l k _ _ u _;have c:∀(j:Nat) t v,Tryz.f7.params[j]? =some t->b[j]? =some v->Value.okWide Tryz.prog W .any base t v:=l;have D:=k;obtain⟨p,q,i,B,rfl,aa,hnd⟩:=k;have hA:DataW.TrodAll enc Tryz.prog W 0 (fun _=>true) true Tryz.f7.params.toList b.toList ds p:=i;rw[Tryz.params7] at hA c;obtain⟨v0,v1,v2,v3,R,d1,d2,S,p0,p1,p2,p3,rfl,rfl,rfl,h0,d,f,g⟩:=trodAll_four hA;have A:laidMet Tryz.prog gn W:=u;have G:Wd.KnW W:=by
  obtain⟨ps,⟨V,t1,P,T,p1,q1,_,_,_,_,⟨Y,t2,Q,U,p2,q2,s,b2,c2,d2,_,_⟩,_⟩,_⟩:=A;exact Wd.GS s b2 c2 d2
 obtain⟨rfl,rfl⟩:=trodVars_none B;have I:∀x∈p0,x.block<W.heap.size:=by obtain⟨m,a⟩:=h0;exact DataW.trod_lt m _ _ _ a
 have J:∀x∈p1,x.block<W.heap.size:=by obtain⟨m,a⟩:=d;exact DataW.trod_lt m _ _ _ a
 have K:∀x∈p2,x.block<W.heap.size:=by obtain⟨m,a⟩:=f;exact DataW.trod_lt m _ _ _ a
 have L:∀x∈p3,x.block<W.heap.size:=by obtain⟨m,a⟩:=g;exact DataW.trod_lt m _ _ _ a
 obtain⟨x,rfl,n⟩:=sZ Tryz.underlying3 (c 1 3 v1 rfl rfl);obtain⟨y,rfl,o⟩:=sZ Tryz.underlying3 (c 2 3 v2 rfl rfl);obtain⟨z,rfl,r⟩:=sZ Tryz.underlying3 (c 3 3 v3 rfl rfl);obtain⟨rs,F,_⟩:=Wd.xS (c 0 22 v0 rfl rfl) h0;clear i l;refine (Wd.sU v0 rs x y z W F (kU n).1 (kU n).2 (kU o).1 (kU o).2 (kU r).1 (kU r).2 G).mono fun e N ⟨E,bel⟩=>?_;subst E;exact⟨_,rfl,_,_,_,[],_,[],D,trodAll_mk1 (shut_bool Tryz.underlying4 true),trodAll_mk4 (Below.trod pb oK (aA oK) h0 bel I) (Below.trod pb oK (aA oK) d bel J) (Below.trod pb oK (aA oK) f bel K) (Below.trod pb oK (aA oK) g bel L),rfl,bel.frame _,fun h=>by cases h⟩
theorem sX:Rows.TopDeadSaid:=
 OpenClaim.holds_of_wide 7 Tryz.f7 rfl rfl rfl rfl rfl rfl rfl ⟨rfl,rfl,rfl,rfl,rfl⟩ rfl rfl rfl rfl rfl oK Tryz.func7 oK
  (aA oK) (by unfold Func.isWrapper;rw[ae (dh oK)];exact⟨rfl,rfl⟩)
  (fun os a H enc _=>nE os a H enc)
theorem topDead_card:Rows.TopDeadCardSaid:=
 Claim7.holds_tied_plain_at .later [] [.data,.data] true Rows.topDeadCard.stood.harness Rows.topDeadCard.stood.looks
  sX (fun _ h=>by cases h) oK (fun _ h=>by cases h) topDead_row_tie rfl ⟨rfl,rfl⟩ oK rfl
  (fun f b c d=>by
   obtain rfl:f=7:=aL ((show Tryz.prog.funcNamed "keyhold/keyholdtop.TopDead"=some 7 by kernel_rfl).symm.trans c) |>.symm;obtain rfl:b=Tryz.f7:=(aL (Tryz.func7.symm.trans d)).symm;exact⟨oK,fun j t a=>by
    rw[Tryz.params7] at a;have e:t=22∨t=3:=by
     match j,a with
     |0,a=>exact Or.inl (by simpa using a.symm)
     |1,a=>exact Or.inr (by simpa using a.symm)
     |2,a=>exact Or.inr (by simpa using a.symm)
     |3,a=>exact Or.inr (by simpa using a.symm)
     |j+4,a=>simp at a
    rcases e with rfl|rfl
    ·exact (show Tryz.prog.wantsStandIn 22=false by kernel_rfl)
    ·exact (show Tryz.prog.wantsStandIn 3=false by kernel_rfl)⟩)
  oK
#print axioms topDead_card
