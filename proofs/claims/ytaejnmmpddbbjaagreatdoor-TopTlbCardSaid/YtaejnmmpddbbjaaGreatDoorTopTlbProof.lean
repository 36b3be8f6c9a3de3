/- 'keyholdtop.TopTlb' answers true for every list of raw numbers, all numbers and either kind of access: in every world that comes of such a life, an address leads to the qb word with what a core remembers as without. Condition: the listed tables of names, and errors.errorType, start as the program's text lays them (the card ties them). -/
import Derived.Test.YtaejnmmpddbbjaaGreatDoorCards
import Derived.Test.YtaejnmmpddbbjaaGreatDoorTie
import Derived.SevenTiedAt
import Derived.Lay
import Derived.OpenShut
import Derived.ChangeOld
import Derived.Below
import Derived.Test.YtaejnmmpddbbjaaGreatDoorQbu
set_option maxRecDepth 100000
set_option maxHeartbeats 16000000
namespace Go.Proofs.YtaejnmmpddbbjaaGreatDoor
open Go.ChangeShapes Go.WideShapes Go.RowKit
open Mem
abbrev fN:List (String×DataW Unit):=[("keyhold/keyholdref.names",Rows.laid_keyhold_keyholdref_names),("keyhold/keyholdref.kindNames",Rows.laid_keyhold_keyholdref_kindNames)]
theorem sL (os:Os) (b:Array Value):laidMetH Tryz.prog Rows.topTlbRow.laid ((({World.holding Tryz.prog os ⟨#[],#[],[]⟩ with heap:=(World.holding Tryz.prog os ⟨#[],#[],[]⟩).heap.modify 0 fun| .cells _ t frozen=>.cells #[.iface 150 (.agg #[.pointer (some ⟨3,33,none⟩)])] t frozen|o=>o}:World).layVars Tryz.prog fN).forCall (fun _ _=>0) ⟨#[],b,[]⟩).memory:=by
 refine laidMetH_of_parts ?_ oK;have e1:(fN.filter fun x=>(fN.map (·.1)).contains x.1)=fN:=List.filter_eq_self.2 fun x a=>List.contains_iff_mem.2 (List.mem_map.2 ⟨x,a,rfl⟩);have e2:(fN.filter fun x=> !(fN.map (·.1)).contains x.1)=[]:=List.filter_eq_nil_iff.2 fun x a=>by rw[List.contains_iff_mem.2 (List.mem_map.2 ⟨x,a,rfl⟩)];simp
 have h:laidMet Tryz.prog fN (({World.holding Tryz.prog os ⟨#[],#[],[]⟩ with heap:=(World.holding Tryz.prog os ⟨#[],#[],[]⟩).heap.modify 0 fun| .cells _ t frozen=>.cells #[.iface 150 (.agg #[.pointer (some ⟨3,33,none⟩)])] t frozen|o=>o}:World).layVars Tryz.prog fN):=
  laidMet_layVars (w0:=({World.holding Tryz.prog os ⟨#[],#[],[]⟩ with heap:=(World.holding Tryz.prog os ⟨#[],#[],[]⟩).heap.modify 0 fun| .cells _ t frozen=>.cells #[.iface 150 (.agg #[.pointer (some ⟨3,33,none⟩)])] t frozen|o=>o}:World)) (fN.map (·.1)) [] (by rw[e1]) (by rw[e1];kernel_rfl) (by rw[e1];kernel_rfl) (by rw[e2];exact LaidIn.none)
 exact h.of_heap (by simp[World.memory,World.forCall,Input.heap])
theorem nM (os:Os) (T:os.Started) (H:Type) (enc:TypeId×Value->H):
  ReturnsInHanded {} Tryz.checked os 3 .any (fun w c=>(Rows.topTlbSpec.pre enc Tryz.prog Tryz.f3 [] false w c∧laidMetH Tryz.prog Rows.topTlbRow.laid w)∧sizedMet enc Tryz.prog Tryz.f3 (OpenSpec.ofChange Rows.topTlbSpec) false w c)
   (Rows.topTlbSpec.post enc Tryz.prog Tryz.f3 false true false false):=by
 refine returnsInHanded_of_change_and (C:=Tryz.checked) (X:=fun w _=>laidMetH Tryz.prog Rows.topTlbRow.laid w) (fun _ _ _ hh h=>h.of_heap hh) own T oK Tryz.func3
  (ChangeSpec.witness_shaped (enc:=enc) (C:=Tryz.checked) (os:=os) (X:=fun w _=>laidMetH Tryz.prog Rows.topTlbRow.laid w) false (({World.holding Tryz.prog os ⟨#[],#[],[]⟩ with heap:=(World.holding Tryz.prog os ⟨#[],#[],[]⟩).heap.modify 0 fun| .cells _ t frozen=>.cells #[.iface 150 (.agg #[.pointer (some ⟨3,33,none⟩)])] t frozen|o=>o}:World).layVars Tryz.prog fN) #[.slice none 0 0,.int .i64 0,.int .i64 0,.int .i64 0,.bool false] 8 ((World.layVars_os _ _ _).trans rfl) (World.shaped_of_ZipB oK oK) oK oK oK (sL os _)) ?_
 intro W base c ds gs V s r _ _ E _;have b:∀(j:Nat) t v,Tryz.f3.params[j]? =some t->c[j]? =some v->Value.okWide Tryz.prog W .any base t v:=s;have G:=r;obtain⟨p,q,l,F,rfl,aa,hnd⟩:=r;have hA:DataW.TrodAll enc Tryz.prog W 0 (fun _=>true) true Tryz.f3.params.toList c.toList ds p:=l;rw[Tryz.params3] at hA b;obtain⟨v0,v1,v2,v3,v4,d0,d1,d2,d3,d4,p0,p1,p2,R,S,rfl,rfl,rfl,d,f,g,i,k⟩:=Wd.pn hA;have n:laidMet Tryz.prog fN W∧handlesMet Tryz.prog [("errors.errorType",Rows.laid_errors_errorType)] W:=E;have J:=tP n.2;have L:Wd.KnW W:=by
  obtain⟨ps,⟨g1,t1,Y,f1,p1,q1,_,_,_,_,⟨g2,t2,Z,f2,p2,q2,D,b2,c2,d2,_,_⟩,_⟩,_⟩:=n.1;exact Wd.C3 D b2 c2 d2
 obtain⟨rfl,rfl⟩:=trodVars_none F;have M:∀x∈p0,x.block<W.heap.size:=by obtain⟨m,a⟩:=d;exact DataW.trod_lt m _ _ _ a
 have N:∀x∈p1,x.block<W.heap.size:=by obtain⟨m,a⟩:=f;exact DataW.trod_lt m _ _ _ a
 have O:∀x∈p2,x.block<W.heap.size:=by obtain⟨m,a⟩:=g;exact DataW.trod_lt m _ _ _ a
 have P:∀x∈R,x.block<W.heap.size:=by obtain⟨m,a⟩:=i;exact DataW.trod_lt m _ _ _ a
 have Q:∀x∈S,x.block<W.heap.size:=by obtain⟨m,a⟩:=k;exact DataW.trod_lt m _ _ _ a
 obtain⟨x,rfl,u⟩:=ql Tryz.underlying3 (b 1 3 v1 rfl rfl);obtain⟨y,rfl,A⟩:=ql Tryz.underlying3 (b 2 3 v2 rfl rfl);obtain⟨z,rfl,B⟩:=ql Tryz.underlying3 (b 3 3 v3 rfl rfl);obtain⟨t,rfl⟩:=Mmu.xo Tryz.underlying4 (b 4 4 v4 rfl rfl);obtain⟨rs,K,_⟩:=Wd.uJ (b 0 22 v0 rfl rfl) d;clear l s;refine (Wd.sK v0 rs x y z t W K (jW u).1 (jW u).2 (jW A).1 (jW A).2 (jW B).1 (jW B).2 L J).mono fun e U ⟨I,bel⟩=>?_;subst I;exact⟨_,rfl,_,_,_,[],_,[],G,trodAll_mk1 (shut_bool Tryz.underlying4 true),Wd.qj (Below.trod lp oK (ay oK) d bel M) (Below.trod lp oK (ay oK) f bel N) (Below.trod lp oK (ay oK) g bel O) (Below.trod lp oK (ay oK) i bel P) (Below.trod lp oK (ay oK) k bel Q),rfl,bel.frame _,fun h=>by cases h⟩
theorem sM:Rows.TopTlbSaid:=
 OpenClaim.holds_of_wide 3 Tryz.f3 rfl rfl rfl rfl rfl rfl rfl ⟨rfl,rfl,rfl,rfl,rfl⟩ rfl rfl rfl rfl rfl oK Tryz.func3 oK
  (ay oK) (by unfold Func.isWrapper;rw[ae (cH oK)];exact⟨rfl,rfl⟩)
  (fun os a H enc _=>nM os a H enc)
theorem topTlb_card:Rows.TopTlbCardSaid:=
 Claim7.holds_tied_plain_at .later [] [.handle,.data,.data] true Rows.topTlbCard.stood.harness Rows.topTlbCard.stood.looks
  sM (fun _ h=>by cases h) oK (fun _ h=>by cases h) topTlb_row_tie rfl ⟨rfl,rfl⟩ oK rfl
  (fun f b c d=>by
   obtain rfl:f=3:=aH ((show Tryz.prog.funcNamed "keyhold/keyholdtop.TopTlb"=some 3 by kernel_rfl).symm.trans c) |>.symm;obtain rfl:b=Tryz.f3:=(aH (Tryz.func3.symm.trans d)).symm;exact⟨oK,fun j t a=>by
    rw[Tryz.params3] at a;have e:t=22∨t=3∨t=4:=by
     match j,a with
     |0,a=>exact Or.inl (by simpa using a.symm)
     |1,a=>exact Or.inr (Or.inl (by simpa using a.symm))
     |2,a=>exact Or.inr (Or.inl (by simpa using a.symm))
     |3,a=>exact Or.inr (Or.inl (by simpa using a.symm))
     |4,a=>exact Or.inr (Or.inr (by simpa using a.symm))
     |j+5,a=>simp at a
    rcases e with rfl|rfl|rfl
    ·exact (show Tryz.prog.wantsStandIn 22=false by kernel_rfl)
    ·exact (show Tryz.prog.wantsStandIn 3=false by kernel_rfl)
    ·exact (show Tryz.prog.wantsStandIn 4=false by kernel_rfl)⟩)
  oK
#print axioms topTlb_card
