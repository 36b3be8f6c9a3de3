/- 'keyholdtop.TopTlb' answers true for every list of raw numbers, all numbers and either kind of access: in every world that comes of such a life, an address leads to the same word with what a core remembers as without. Condition: the listed tables of names, and errors.errorType, start as the program's text lays them (the card ties them). -/
import Derived.Test.YtaejnmmpddbbjaaGreatDoorCards
import Derived.Test.YtaejnmmpddbbjaaGreatDoorTie
import Derived.SevenTiedAt
import Derived.Lay
import Derived.OpenShut
import Derived.ChangeOld
import Derived.Below
import Derived.Test.YtaejnmmpddbbjaaGreatDoorQbt
namespace Go.Proofs.YtaejnmmpddbbjaaGreatDoor
open Go.ChangeShapes Go.WideShapes Go.RowKit
open Mem
abbrev dataLaid:List (String×DataW Unit):=[("keyhold/keyholdref.names",Rows.laid_keyhold_keyholdref_names),("keyhold/keyholdref.kindNames",Rows.laid_keyhold_keyholdref_kindNames)]
theorem topTlb_met (os:Os) (b:Array Value):laidMetH Tryz.prog Rows.topTlbRow.laid ((({World.holding Tryz.prog os ⟨#[],#[],[]⟩ with heap:=(World.holding Tryz.prog os ⟨#[],#[],[]⟩).heap.modify 0 fun| .cells _ t frozen=>.cells #[.iface 150 (.agg #[.pointer (some ⟨3,33,none⟩)])] t frozen|o=>o}:World).layVars Tryz.prog dataLaid).forCall (fun _ _=>0) ⟨#[],b,[]⟩).memory:=by
 refine laidMetH_of_parts ?_ (by kernel_rfl);have e1:(dataLaid.filter fun x=>(dataLaid.map (·.1)).contains x.1)=dataLaid:=List.filter_eq_self.2 fun x a=>List.contains_iff_mem.2 (List.mem_map.2 ⟨x,a,rfl⟩);have e2:(dataLaid.filter fun x=> !(dataLaid.map (·.1)).contains x.1)=[]:=List.filter_eq_nil_iff.2 fun x a=>by rw[List.contains_iff_mem.2 (List.mem_map.2 ⟨x,a,rfl⟩)];simp
 have h:laidMet Tryz.prog dataLaid (({World.holding Tryz.prog os ⟨#[],#[],[]⟩ with heap:=(World.holding Tryz.prog os ⟨#[],#[],[]⟩).heap.modify 0 fun| .cells _ t frozen=>.cells #[.iface 150 (.agg #[.pointer (some ⟨3,33,none⟩)])] t frozen|o=>o}:World).layVars Tryz.prog dataLaid):=
  laidMet_layVars (w0:=({World.holding Tryz.prog os ⟨#[],#[],[]⟩ with heap:=(World.holding Tryz.prog os ⟨#[],#[],[]⟩).heap.modify 0 fun| .cells _ t frozen=>.cells #[.iface 150 (.agg #[.pointer (some ⟨3,33,none⟩)])] t frozen|o=>o}:World)) (dataLaid.map (·.1)) [] (by rw[e1]) (by rw[e1];kernel_rfl) (by rw[e1];kernel_rfl) (by rw[e2];exact LaidIn.none)
 exact h.of_heap (by simp[World.memory,World.forCall,Input.heap])
set_option maxRecDepth 100000
theorem topTlb_lifted (os:Os) (T:os.Started) (H:Type) (enc:TypeId×Value→H):
  ReturnsInHanded {} Tryz.checked os 3 .any (fun w c=>(Rows.topTlbSpec.pre enc Tryz.prog Tryz.f3 [] false w c∧laidMetH Tryz.prog Rows.topTlbRow.laid w)∧sizedMet enc Tryz.prog Tryz.f3 (OpenSpec.ofChange Rows.topTlbSpec) false w c)
   (Rows.topTlbSpec.post enc Tryz.prog Tryz.f3 false true false false):=by
 refine returnsInHanded_of_change_and (C:=Tryz.checked) (X:=fun w _=>laidMetH Tryz.prog Rows.topTlbRow.laid w) (fun _ _ _ hh h=>h.of_heap hh) own T (by kernel_rfl) Tryz.func3
  (ChangeSpec.witness_shaped (enc:=enc) (C:=Tryz.checked) (os:=os) (X:=fun w _=>laidMetH Tryz.prog Rows.topTlbRow.laid w) false (({World.holding Tryz.prog os ⟨#[],#[],[]⟩ with heap:=(World.holding Tryz.prog os ⟨#[],#[],[]⟩).heap.modify 0 fun| .cells _ t frozen=>.cells #[.iface 150 (.agg #[.pointer (some ⟨3,33,none⟩)])] t frozen|o=>o}:World).layVars Tryz.prog dataLaid) #[.slice none 0 0,.int .i64 0,.int .i64 0,.int .i64 0,.bool false] 8 ((World.layVars_os _ _ _).trans rfl) (World.shaped_of_ZipB (by kernel_rfl) (by kernel_rfl)) (by kernel_rfl) (by kernel_rfl) (by kernel_rfl) (topTlb_met os _)) ?_
 intro W base c ds gs V s r _ _ E _;have b:∀(j:Nat) t v,Tryz.f3.params[j]? =some t→c[j]? =some v→Value.okWide Tryz.prog W .any base t v:=s;have G:=r;obtain⟨p,q,l,F,rfl,aa,hnd⟩:=r;have hA:DataW.TrodAll enc Tryz.prog W 0 (fun _=>true) true Tryz.f3.params.toList c.toList ds p:=l;rw[Tryz.params3] at hA b;obtain⟨v0,v1,v2,v3,v4,d0,d1,d2,d3,d4,p0,p1,p2,R,S,rfl,rfl,rfl,d,f,g,i,k⟩:=Wd.trodAll_five hA;have n:laidMet Tryz.prog dataLaid W∧handlesMet Tryz.prog [("errors.errorType",Rows.laid_errors_errorType)] W:=E;have J:=handle_of n.2;have L:Wd.KnW W:=by
  obtain⟨ps,⟨g1,t1,Y,f1,p1,q1,_,_,_,_,⟨g2,t2,Z,f2,p2,q2,D,b2,c2,d2,_,_⟩,_⟩,_⟩:=n.1;exact Wd.kn_of D b2 c2 d2
 obtain⟨rfl,rfl⟩:=trodVars_none F;have M:∀x∈p0,x.block<W.heap.size:=by obtain⟨m,a⟩:=d;exact DataW.trod_lt m _ _ _ a
 have N:∀x∈p1,x.block<W.heap.size:=by obtain⟨m,a⟩:=f;exact DataW.trod_lt m _ _ _ a
 have O:∀x∈p2,x.block<W.heap.size:=by obtain⟨m,a⟩:=g;exact DataW.trod_lt m _ _ _ a
 have P:∀x∈R,x.block<W.heap.size:=by obtain⟨m,a⟩:=i;exact DataW.trod_lt m _ _ _ a
 have Q:∀x∈S,x.block<W.heap.size:=by obtain⟨m,a⟩:=k;exact DataW.trod_lt m _ _ _ a
 obtain⟨x,rfl,u⟩:=val_int Tryz.underlying3 (b 1 3 v1 rfl rfl);obtain⟨y,rfl,A⟩:=val_int Tryz.underlying3 (b 2 3 v2 rfl rfl);obtain⟨z,rfl,B⟩:=val_int Tryz.underlying3 (b 3 3 v3 rfl rfl);obtain⟨t,rfl⟩:=Mmu.val_bool Tryz.underlying4 (b 4 4 v4 rfl rfl);obtain⟨rs,K,_⟩:=Wd.open_rawK (b 0 22 v0 rfl rfl) d;clear l s;refine (Wd.topTlb_any v0 rs x y z t W K (has_i64 u).1 (has_i64 u).2 (has_i64 A).1 (has_i64 A).2 (has_i64 B).1 (has_i64 B).2 L J).mono fun e U ⟨I,bel⟩=>?_;subst I;exact⟨_,rfl,_,_,_,[],_,[],G,trodAll_mk1 (shut_bool Tryz.underlying4 true),Wd.trodAll_mk5 (Below.trod laidOut (by kernel_rfl) (az (by kernel_rfl)) d bel M) (Below.trod laidOut (by kernel_rfl) (az (by kernel_rfl)) f bel N) (Below.trod laidOut (by kernel_rfl) (az (by kernel_rfl)) g bel O) (Below.trod laidOut (by kernel_rfl) (az (by kernel_rfl)) i bel P) (Below.trod laidOut (by kernel_rfl) (az (by kernel_rfl)) k bel Q),rfl,bel.frame _,fun h=>by cases h⟩
set_option maxRecDepth 512
theorem topTlb_row:Rows.TopTlbSaid:=
 OpenClaim.holds_of_wide 3 Tryz.f3 rfl rfl rfl rfl rfl rfl rfl ⟨rfl,rfl,rfl,rfl,rfl⟩ rfl rfl rfl rfl rfl (by kernel_rfl) Tryz.func3 (by kernel_rfl)
  (az (by kernel_rfl)) (by unfold Func.isWrapper;rw[ae (cP (by kernel_rfl))];exact⟨rfl,rfl⟩)
  (fun os a H enc _=>topTlb_lifted os a H enc)
theorem topTlb_card:Rows.TopTlbCardSaid:=
 Claim7.holds_tied_plain_at .later [] [.handle,.data,.data] true Rows.topTlbCard.stood.harness Rows.topTlbCard.stood.looks
  topTlb_row (fun _ h=>by cases h) (by kernel_rfl) (fun _ h=>by cases h) topTlb_row_tie rfl ⟨rfl,rfl⟩ (by kernel_rfl) rfl
  (fun f b c d=>by
   obtain rfl:f=3:=aK ((show Tryz.prog.funcNamed "keyhold/keyholdtop.TopTlb"=some 3 by kernel_rfl).symm.trans c) |>.symm;obtain rfl:b=Tryz.f3:=(aK (Tryz.func3.symm.trans d)).symm;exact⟨by kernel_rfl,fun j t a=>by
    rw[Tryz.params3] at a;have e:t=22∨t=3∨t=4:=by
     match j,a with
     |0,a=>exact Or.inl (by simpa using a.symm)
     |1,a=>exact Or.inr (Or.inl (by simpa using a.symm))
     |2,a=>exact Or.inr (Or.inl (by simpa using a.symm))
     |3,a=>exact Or.inr (Or.inl (by simpa using a.symm))
     |4,a=>exact Or.inr (Or.inr (by simpa using a.symm))
     |j+5,a=>simp at a
    rcases e with rfl|rfl|rfl
    ·exact (show Tryz.prog.wantsStandIn 22=false by kernel_rfl)
    ·exact (show Tryz.prog.wantsStandIn 3=false by kernel_rfl)
    ·exact (show Tryz.prog.wantsStandIn 4=false by kernel_rfl)⟩)
  (by kernel_rfl)
#print axioms topTlb_card
end Go.Proofs.YtaejnmmpddbbjaaGreatDoor
