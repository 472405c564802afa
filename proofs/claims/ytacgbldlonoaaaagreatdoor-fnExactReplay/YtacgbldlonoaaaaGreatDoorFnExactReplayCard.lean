/-
  Proved: at every argument the law 'FnExactReplay' returns true, and each argument reads behind the call as it read before; the package-level variables that the row lists start as the program's text lays them (the card ties them). No other condition.
-/
import Derived.Test.YtacgbldlonoaaaaGreatDoorCards
import Derived.Test.YtacgbldlonoaaaaGreatDoorTie
import Derived.Test.YtacgbldlonoaaaaGreatDoorRx3
namespace Go.Proofs.YtacgbldlonoaaaaGreatDoor.fnExactReplay
set_option maxHeartbeats 100000000
set_option maxRecDepth 100000
open Go.ChangeShapes Go.WideShapes Go.ChangeAt Go.RowKit
open Go.ChangeMaps (open_string shut_string)
set_option linter.unusedVariables false
theorem own:ownKnob Tryz.prog.godebug=none:=Aab
theorem laidOut:laidOutB Tryz.prog=true:=Aab
theorem azB (os:Os) (args:Array Value):laidMetH Tryz.prog Rows.fnExactReplayRow.laid ((World.doorLaid Tryz.prog 400 os).forCall (λ_ _=>0) ⟨#[],args,[]⟩).memory:=
 laidMetH_of_parts3 (fuel:=8) (laidMet_of_run' 8 Aab Aab) Aab Aab
theorem lifted (os:Os) (started:os.Started) (H:Type) (enc:TypeId×Value->H):
 ReturnsInHanded {} Tryz.checked os 5 .any (λw args=>(Rows.fnExactReplaySpec.pre enc Tryz.prog Tryz.f5 [] false w args/\laidMetH Tryz.prog Rows.fnExactReplayRow.laid w)/\sizedMet enc Tryz.prog Tryz.f5 (OpenSpec.ofChange Rows.fnExactReplaySpec) false w args)
  (Rows.fnExactReplaySpec.post enc Tryz.prog Tryz.f5 false true false false):=by
 refine returnsInHanded_of_change_and (C:=Tryz.checked) (X:=λw _=>laidMetH Tryz.prog Rows.fnExactReplayRow.laid w) (λ_ _ _ hh h=>h.of_heap hh) own started Aab Tryz.func5
  (ChangeSpec.witness_shaped (enc:=enc) (C:=Tryz.checked) (os:=os) (X:=λw _=>laidMetH Tryz.prog Rows.fnExactReplayRow.laid w) false (World.doorLaid Tryz.prog 400 os) #[.agg gu,.string ByteArray.empty] 8 rfl (World.shaped_of_RefB Aab Aab) Aab Aab Aab (azB os _)) ?_
 intro W base args ds gs before hval0 hW _ _ hL _;have hval:∀(j:Nat) t v,Tryz.f5.params[j]?=some t->args[j]?=some v->Value.okWide Tryz.prog W .any base t v:=hval0;have hW':=hW;obtain⟨p,q,hA0,hV,rfl,hfz,hnd⟩:=hW;have hA:DataW.TrodAll enc Tryz.prog W 0 (λ_=>true) true Tryz.f5.params.toList args.toList ds p:=hA0;rw [Tryz.params5] at hA hval;obtain⟨v0,vs0,d0,ds0,p0,q0,hargs,rfl,rfl,h0,r0⟩:=trodAll_cons hA;obtain⟨v1,vs1,d1,ds1,p1,q1,rfl,rfl,rfl,h1,r1⟩:=trodAll_cons r0;obtain⟨rfl,rfl,rfl⟩:=trodAll_nil r1;obtain rfl:args=#[v0,v1]:=by cases args;simp_all
 have hV1:=hV;obtain⟨gv0,gv1,gv2,gv3,gv4,rfl⟩:=ayQ (ayl hV);have k0:=h0;have lt0:∀x∈p0,x.block < W.heap.size:=by obtain⟨m,hm⟩:=k0;exact DataW.trod_lt m _ _ _ hm
 obtain⟨n0,A0,rfl,z0,w0⟩:=azl (hval 0 63 v0 rfl rfl) h0;obtain⟨a1,rfl,rfl,rfl,w1⟩:=open_string Tryz.underlying9 (hval 1 9 v1 rfl rfl) h1;clear hA0 hval0;obtain⟨⟨E,hE⟩,hH⟩:=ayk hL;refine(ayh n0 A0 z0 a1 w1 E W w0 hE hH).mono λe W' ⟨he,bel⟩=>?_
 subst he;exact⟨_,rfl,_,_,_,[],_,q,hW',trodAll_mk1 (shut_bool Tryz.underlying4 _),(trodAll_cons_mk (Below.trod laidOut Aab (of_decide_eq_true Aab) k0 bel lt0) (trodAll_cons_mk (shut_string Tryz.underlying9 w1) trodAll_mk0)),Below.trodVars laidOut bel Aab hV1,bel.frame _,λh=>Aax⟩
theorem closed:joinedFacts Tryz.pinned.checked.prog 5 Tryz.f5 Rows.fnExactReplaySpec Rows.fnExactReplayRow=true:=by
 unfold joinedFacts;simp only[Bool.and_eq_true];repeat' apply And.intro
 all_goals (as_aux_lemma=>kernel_rfl)
theorem over:Rows.FnExactReplaySaid:=
 OpenClaim.holds_of_wide 5 Tryz.f5 rfl rfl rfl rfl rfl rfl rfl ⟨rfl,rfl,rfl,rfl,rfl⟩ rfl rfl rfl rfl rfl Aab Tryz.func5 closed
  (of_decide_eq_true Aab) (by unfold Func.isWrapper;first|(rw [if_pos (by decide+kernel)];kernel_rfl)|(rw [if_neg (by decide+kernel)];exact⟨rfl,rfl⟩))
  (λos started H enc _=>lifted os started H enc)
theorem plain (f:FuncId) (fn:Func) (hf:Tryz.pinned.checked.prog.funcNamed "loop.example/g00264/laws.FnExactReplay" =some f) (hfn:Tryz.pinned.checked.prog.funcs[f]?=some fn):
 Rows.fnExactReplayCard.stood.looks=Tryz.pinned.checked.prog.looks []/\∀(j:Nat) t,fn.params[j]?=some t->Tryz.pinned.checked.prog.wantsStandIn t=false:=by
 obtain rfl:f=5:=Option.some.inj ((show Tryz.prog.funcNamed "loop.example/g00264/laws.FnExactReplay" =some 5 by kernel_rfl).symm.trans hf) |>.symm
 obtain rfl:fn=Tryz.f5:=(Option.some.inj (Tryz.func5.symm.trans hfn)).symm;refine⟨Aab,λj t ht=>?_⟩;rw [Tryz.params5] at ht;have hm:t∈[63,9]:=by simpa using Array.mem_of_getElem? ht
 have hall:([63,9].all λu=> !Tryz.prog.wantsStandIn u)=true:=Aab
 exact(show Tryz.prog.wantsStandIn t=false by simpa using List.all_eq_true.1 hall t hm)
theorem proved:Rows.FnExactReplayCardSaid:=
 Claim7.holds_tied_plain_at .later [] _ _ _ _ over (λ_ h=>Aax) Aab (λ_ h=>Aax) fnExactReplay_row_tie rfl ⟨rfl,rfl⟩ Aab rfl plain Aab
#print axioms proved
end Go.Proofs.YtacgbldlonoaaaaGreatDoor.fnExactReplay
