/-
  Proved: at every argument the law 'FnExactWorldOk' returns true, and each argument reads behind the call as it read before; the package-level variables that the row lists start as the program's text lays them (the card ties them). No other condition.
-/
import Derived.Test.YtfachhcijcjbpaaGreatDoorCards
import Derived.Test.YtfachhcijcjbpaaGreatDoorTie
import Derived.Test.YtfachhcijcjbpaaGreatDoorRw45
namespace Go.Proofs.YtfachhcijcjbpaaGreatDoor.fnExactWorldOk
open Go.Proofs.Tryz
set_option maxHeartbeats 100000000
set_option maxRecDepth 100000
open Go.ChangeShapes Go.WideShapes Go.ChangeAt Go.RowKit
open Go.ChangeMaps (open_string shut_string)
set_option linter.unusedVariables false
theorem own:ownKnob prog.godebug=none:=Aab
theorem laidOut:laidOutB prog=true:=Aab
theorem abC (os:Os) (args:Array Value):laidMetH prog Rows.fnExactWorldOkRow.laid ((World.doorLaid prog 400 os).forCall (λ_ _=>0) ⟨#[],args,[]⟩).memory:=
 laidMetH_of_parts3 (fuel:=8) (laidMet_of_run' 8 Aab Aab) Aab Aab
theorem lifted (os:Os) (started:os.Started) (H:Type) (enc:TypeId×Value->H):
 ReturnsInHanded {} Tryz.checked os 3 .any (λw args=>(Rows.fnExactWorldOkSpec.pre enc prog Tryz.f3 [] false w args/\laidMetH prog Rows.fnExactWorldOkRow.laid w)/\sizedMet enc prog Tryz.f3 (OpenSpec.ofChange Rows.fnExactWorldOkSpec) false w args)
  (Rows.fnExactWorldOkSpec.post enc prog Tryz.f3 false true false false):=by
 refine returnsInHanded_of_change_and (C:=Tryz.checked) (X:=λw _=>laidMetH prog Rows.fnExactWorldOkRow.laid w) (λ_ _ _ hh h=>h.of_heap hh) own started Aab func3
  (ChangeSpec.witness_shaped (enc:=enc) (C:=Tryz.checked) (os:=os) (X:=λw _=>laidMetH prog Rows.fnExactWorldOkRow.laid w) false (World.doorLaid prog 400 os) #[.agg #[.slice none 0 0,.slice none 0 0,.slice none 0 0,.slice none 0 0,.slice none 0 0]] 8 rfl (World.shaped_of_RefB Aab Aab) Aab Aab Aab (abC os _)) ?_
 intro W base args ds gs before hval0 hW _ _ hL _;have hval:∀(j:Nat) t v,Tryz.f3.params[j]?=some t->args[j]?=some v->Value.okWide prog W .any base t v:=hval0;have hW':=hW;obtain⟨p,q,hA0,hV,rfl,hfz,hnd⟩:=hW;have hA:DataW.TrodAll enc prog W 0 (λ_=>true) true Tryz.f3.params.toList args.toList ds p:=hA0;rw [params3] at hA hval;obtain⟨v0,vs0,d0,ds0,p0,q0,hargs,rfl,rfl,h0,r0⟩:=trodAll_cons hA;obtain⟨rfl,rfl,rfl⟩:=trodAll_nil r0;obtain rfl:args=#[v0]:=by cases args;simp_all
 have hV1:=hV;obtain⟨gv0,gv1,gv2,gv3,gv4,rfl⟩:=Vu (Bh hV);have k0:=h0;have lt0:∀x∈p0,x.block < W.heap.size:=by obtain⟨m,hm⟩:=k0;exact DataW.trod_lt m _ _ _ hm
 obtain⟨n0,A0,rfl,z0,w0⟩:=UZ (hval 0 30 v0 rfl rfl) h0;clear hA0 hval0;obtain⟨⟨E,hE⟩,hH⟩:=yH hL;refine(xJ n0 A0 z0 E W w0 hE hH).mono λe W' ⟨he,bel⟩=>?_
 subst he;exact⟨_,rfl,_,_,_,[],_,q,hW',trodAll_mk1 (shut_bool underlying4 _),(trodAll_cons_mk (Below.trod laidOut Aab (aEQ Aab) k0 bel lt0) trodAll_mk0),Below.trodVars laidOut bel Aab hV1,bel.frame _,λh=>Abb⟩
theorem closed:joinedFacts Tryz.pinned.checked.prog 3 Tryz.f3 Rows.fnExactWorldOkSpec Rows.fnExactWorldOkRow=true:=by
 unfold joinedFacts;simp only[aED];repeat' apply And.intro
 all_goals (as_aux_lemma=>kernel_rfl)
theorem over:Rows.FnExactWorldOkSaid:=
 OpenClaim.holds_of_wide 3 Tryz.f3 rfl rfl rfl rfl rfl rfl rfl ⟨rfl,rfl,rfl,rfl,rfl⟩ rfl rfl rfl rfl rfl Aab func3 closed
  (aEQ Aab) (by unfold Func.isWrapper;first|(rw [aER (by decide+kernel)];kernel_rfl)|(rw [aEG (by decide+kernel)];exact⟨rfl,rfl⟩))
  (λos started H enc _=>lifted os started H enc)
theorem plain (f:FuncId) (fn:Func) (hf:Tryz.pinned.checked.prog.funcNamed "loop.example/g00264/laws.FnExactWorldOk" =some f) (hfn:Tryz.pinned.checked.prog.funcs[f]?=some fn):
 Rows.fnExactWorldOkCard.stood.looks=Tryz.pinned.checked.prog.looks []/\∀(j:Nat) t,fn.params[j]?=some t->Tryz.pinned.checked.prog.wantsStandIn t=false:=by
 obtain rfl:f=3:=aFe ((show prog.funcNamed "loop.example/g00264/laws.FnExactWorldOk" =some 3 by kernel_rfl).symm.trans hf) |>.symm
 obtain rfl:fn=Tryz.f3:=(aFe (func3.symm.trans hfn)).symm;refine⟨Aab,λj t ht=>?_⟩;rw [params3] at ht;have hm:t∈[30]:=by simpa using Array.mem_of_getElem? ht
 have hall:([30].all λu=> !prog.wantsStandIn u)=true:=Aab
 exact(show prog.wantsStandIn t=false by simpa using aF0.1 hall t hm)
theorem proved:Rows.FnExactWorldOkCardSaid:=
 Claim7.holds_tied_plain_at .later [] _ _ _ _ over (λ_ h=>Abb) Aab (λ_ h=>Abb) fnExactWorldOk_row_tie rfl ⟨rfl,rfl⟩ Aab rfl plain Aab
#print axioms proved
end Go.Proofs.YtfachhcijcjbpaaGreatDoor.fnExactWorldOk
