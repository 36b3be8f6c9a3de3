/- 'keyholdtop.TopRevoke' answers true for every list of raw numbers and all numbers: in a world that is made of them, behind a revocation, nothing that was made from the key is left, and what lr is as it was. Condition: the listed tables of names start as the program's text lays them (the card ties them). -/
import Derived.Test.YtnccmdndkmmhcaaGreatDoorCards
import Derived.Test.YtnccmdndkmmhcaaGreatDoorTie
import Derived.SevenTiedAt
import Derived.Lay
import Derived.OpenShut
import Derived.ChangeOld
import Derived.Below
import Derived.Test.YtnccmdndkmmhcaaGreatDoorUbr
set_option maxRecDepth 100000
set_option maxHeartbeats 16000000
namespace Go.Proofs.YtnccmdndkmmhcaaGreatDoor
open Go.ChangeShapes Go.WideShapes Go.RowKit
open Mem
abbrev gm:List (String×DataW Unit):=[("keyhold/keyholdref.names",Rows.laid_keyhold_keyholdref_names),("keyhold/keyholdref.kindNames",Rows.laid_keyhold_keyholdref_kindNames)]
theorem p7 (os:Os) (b:Array Value):laidMetH Tryz.prog Rows.topRevokeRow.laid (((World.holding Tryz.prog os ⟨#[],#[],[]⟩).layVars Tryz.prog gm).forCall (fun _ _=>0) ⟨#[],b,[]⟩).memory:=by
 refine laidMetH_of_parts ?_ oK;have e1:(gm.filter fun x=>(gm.map (·.1)).contains x.1)=gm:=List.filter_eq_self.2 fun x a=>List.contains_iff_mem.2 (List.mem_map.2 ⟨x,a,rfl⟩);have e2:(gm.filter fun x=> !(gm.map (·.1)).contains x.1)=[]:=List.filter_eq_nil_iff.2 fun x a=>by rw[List.contains_iff_mem.2 (List.mem_map.2 ⟨x,a,rfl⟩)];simp
 have h:laidMet Tryz.prog gm ((World.holding Tryz.prog os ⟨#[],#[],[]⟩).layVars Tryz.prog gm):=
  laidMet_layVars (w0:=(World.holding Tryz.prog os ⟨#[],#[],[]⟩)) (gm.map (·.1)) [] (by rw[e1]) (by rw[e1];kernel_rfl) (by rw[e1];kernel_rfl) (by rw[e2];exact LaidIn.none)
 exact h.of_heap (by simp[World.memory,World.forCall,Input.heap])
theorem lV (os:Os) (N:os.Started) (H:Type) (enc:TypeId×Value->H):
  ReturnsInHanded {} Tryz.checked os 6 .any (fun w b=>(Rows.topRevokeSpec.pre enc Tryz.prog Tryz.f6 [] false w b∧laidMetH Tryz.prog Rows.topRevokeRow.laid w)∧sizedMet enc Tryz.prog Tryz.f6 (OpenSpec.ofChange Rows.topRevokeSpec) false w b)
   (Rows.topRevokeSpec.post enc Tryz.prog Tryz.f6 false true false false):=by
 refine returnsInHanded_of_change_and (C:=Tryz.checked) (X:=fun w _=>laidMetH Tryz.prog Rows.topRevokeRow.laid w) (fun _ _ _ hh h=>h.of_heap hh) own N oK Tryz.func6
  (ChangeSpec.witness_shaped (enc:=enc) (C:=Tryz.checked) (os:=os) (X:=fun w _=>laidMetH Tryz.prog Rows.topRevokeRow.laid w) false ((World.holding Tryz.prog os ⟨#[],#[],[]⟩).layVars Tryz.prog gm) #[.slice none 0 0,.int .i64 0,.int .i64 0,.int .i64 0] 8 ((World.layVars_os _ _ _).trans rfl) (World.shaped_of_ZipB oK oK) oK oK oK (p7 os _)) ?_
 intro W base b ds gs P n l _ _ A _;have c:∀(j:Nat) t v,Tryz.f6.params[j]? =some t->b[j]? =some v->Value.okWide Tryz.prog W .any base t v:=n;have E:=l;obtain⟨p,q,k,D,rfl,aa,hnd⟩:=l;have hA:DataW.TrodAll enc Tryz.prog W 0 (fun _=>true) true Tryz.f6.params.toList b.toList ds p:=k;rw[Tryz.params6] at hA c;obtain⟨v0,v1,v2,v3,S,d1,d2,T,p0,p1,p2,p3,rfl,rfl,rfl,d,f,g,i⟩:=trodAll_four hA;have B:laidMet Tryz.prog gm W:=A;have I:Wd.KnW W:=by
  obtain⟨ps,⟨Y,t1,Q,U,p1,q1,_,_,_,_,⟨Z,t2,R,V,p2,q2,u,b2,c2,d2,_,_⟩,_⟩,_⟩:=B;exact Wd.GY u b2 c2 d2
 obtain⟨rfl,rfl⟩:=trodVars_none D;have J:∀x∈p0,x.block<W.heap.size:=by obtain⟨m,a⟩:=d;exact DataW.trod_lt m _ _ _ a
 have K:∀x∈p1,x.block<W.heap.size:=by obtain⟨m,a⟩:=f;exact DataW.trod_lt m _ _ _ a
 have L:∀x∈p2,x.block<W.heap.size:=by obtain⟨m,a⟩:=g;exact DataW.trod_lt m _ _ _ a
 have M:∀x∈p3,x.block<W.heap.size:=by obtain⟨m,a⟩:=i;exact DataW.trod_lt m _ _ _ a
 obtain⟨x,rfl,o⟩:=tA Tryz.underlying3 (c 1 3 v1 rfl rfl);obtain⟨y,rfl,r⟩:=tA Tryz.underlying3 (c 2 3 v2 rfl rfl);obtain⟨z,rfl,s⟩:=tA Tryz.underlying3 (c 3 3 v3 rfl rfl);obtain⟨rs,G,_⟩:=Wd.xX (c 0 22 v0 rfl rfl) d;clear k n;refine (Wd.p6 v0 rs x y z W G (kZ o).1 (kZ o).2 (kZ r).1 (kZ r).2 (kZ s).1 (kZ s).2 I).mono fun e O ⟨F,bel⟩=>?_;subst F;exact⟨_,rfl,_,_,_,[],_,[],E,trodAll_mk1 (shut_bool Tryz.underlying4 true),trodAll_mk4 (Below.trod py oK (aA oK) d bel J) (Below.trod py oK (aA oK) f bel K) (Below.trod py oK (aA oK) g bel L) (Below.trod py oK (aA oK) i bel M),rfl,bel.frame _,fun h=>by cases h⟩
theorem p8:Rows.TopRevokeSaid:=
 OpenClaim.holds_of_wide 6 Tryz.f6 rfl rfl rfl rfl rfl rfl rfl ⟨rfl,rfl,rfl,rfl,rfl⟩ rfl rfl rfl rfl rfl oK Tryz.func6 oK
  (aA oK) (by unfold Func.isWrapper;rw[ae (dh oK)];exact⟨rfl,rfl⟩)
  (fun os a H enc _=>lV os a H enc)
theorem topRevoke_card:Rows.TopRevokeCardSaid:=
 Claim7.holds_tied_plain_at .later [] [.data,.data] true Rows.topRevokeCard.stood.harness Rows.topRevokeCard.stood.looks
  p8 (fun _ h=>by cases h) oK (fun _ h=>by cases h) topRevoke_row_tie rfl ⟨rfl,rfl⟩ oK rfl
  (fun f b c d=>by
   obtain rfl:f=6:=aK ((show Tryz.prog.funcNamed "keyhold/keyholdtop.TopRevoke"=some 6 by kernel_rfl).symm.trans c) |>.symm;obtain rfl:b=Tryz.f6:=(aK (Tryz.func6.symm.trans d)).symm;exact⟨oK,fun j t a=>by
    rw[Tryz.params6] at a;have e:t=22∨t=3:=by
     match j,a with
     |0,a=>exact Or.inl (by simpa using a.symm)
     |1,a=>exact Or.inr (by simpa using a.symm)
     |2,a=>exact Or.inr (by simpa using a.symm)
     |3,a=>exact Or.inr (by simpa using a.symm)
     |j+4,a=>simp at a
    rcases e with rfl|rfl
    ·exact (show Tryz.prog.wantsStandIn 22=false by kernel_rfl)
    ·exact (show Tryz.prog.wantsStandIn 3=false by kernel_rfl)⟩)
  oK
#print axioms topRevoke_card
