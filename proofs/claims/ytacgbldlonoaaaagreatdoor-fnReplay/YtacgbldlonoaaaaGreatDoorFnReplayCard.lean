/-
  Proved: at every argument the law 'FnReplay' returns true, and each argument reads behind the call as it read before; the package-level variables that the row lists start as the program's text lays them (the card ties them). No other condition.
-/
import Derived.Test.YtacgbldlonoaaaaGreatDoorCards
import Derived.Test.YtacgbldlonoaaaaGreatDoorTie
import Derived.Test.YtacgbldlonoaaaaGreatDoorRw45
namespace Go.Proofs.YtacgbldlonoaaaaGreatDoor.fnReplay
open Go.Proofs.Tryz
set_option maxHeartbeats 100000000
set_option maxRecDepth 100000
open Go.ChangeShapes Go.WideShapes Go.ChangeAt Go.RowKit
open Go.ChangeMaps (open_string shut_string)
set_option linter.unusedVariables false
theorem own:ownKnob prog.godebug=none:=Aab
theorem laidOut:laidOutB prog=true:=Aab
theorem aa6 (os:Os) (args:Array Value):laidMetH prog Rows.fnReplayRow.laid ((World.doorLaid prog 400 os).forCall (λ_ _=>0) ⟨#[],args,[]⟩).memory:=
 laidMetH_of_parts3 (fuel:=8) (laidMet_of_run' 8 Aab Aab) Aab Aab
theorem lifted (os:Os) (started:os.Started) (H:Type) (enc:TypeId×Value->H):
 ReturnsInHanded {} Tryz.checked os 4 .any (λw args=>(Rows.fnReplaySpec.pre enc prog Tryz.f4 [] false w args/\laidMetH prog Rows.fnReplayRow.laid w)/\sizedMet enc prog Tryz.f4 (OpenSpec.ofChange Rows.fnReplaySpec) false w args)
  (Rows.fnReplaySpec.post enc prog Tryz.f4 false true false false):=by
 refine returnsInHanded_of_change_and (C:=Tryz.checked) (X:=λw _=>laidMetH prog Rows.fnReplayRow.laid w) (λ_ _ _ hh h=>h.of_heap hh) own started Aab func4
  (ChangeSpec.witness_shaped (enc:=enc) (C:=Tryz.checked) (os:=os) (X:=λw _=>laidMetH prog Rows.fnReplayRow.laid w) false (World.doorLaid prog 400 os) #[.slice none 0 0] 8 rfl (World.shaped_of_RefB Aab Aab) Aab Aab Aab (aa6 os _)) ?_
 intro W base args ds gs before hval0 hW _ _ hL _;have hval:∀(j:Nat) t v,Tryz.f4.params[j]?=some t->args[j]?=some v->Value.okWide prog W .any base t v:=hval0;have hW':=hW;obtain⟨p,q,hA0,hV,rfl,hfz,hnd⟩:=hW;have hA:DataW.TrodAll enc prog W 0 (λ_=>true) true Tryz.f4.params.toList args.toList ds p:=hA0;rw [params4] at hA hval;obtain⟨v0,vs0,d0,ds0,p0,q0,hargs,rfl,rfl,h0,r0⟩:=trodAll_cons hA;obtain⟨rfl,rfl,rfl⟩:=trodAll_nil r0;obtain rfl:args=#[v0]:=by cases args;simp_all
 have hV1:=hV;obtain⟨gv0,gv1,gv2,gv3,gv4,rfl⟩:=Uq (AX hV);obtain⟨a0,ayr,cap0,rfl⟩:=okWide_slice underlying22 (hval 0 22 v0 rfl rfl);have k0:=h0;have lt0:∀x∈p0,x.block < W.heap.size:=by obtain⟨m,hm⟩:=k0;exact DataW.trod_lt m _ _ _ hm
 obtain⟨z0,w0⟩:∃zs,ZQ .u8 W a0 ayr cap0 zs:=by
  obtain⟨fuel,hf⟩:=h0;rcases open_ints underlying22 underlying5 Aab hf with⟨hcs,_⟩|⟨x,l,c,zs,hcs,_,hl,hm,hz,_,hcell,hwz⟩
  .simp[Value.cells] at hcs;obtain⟨rfl,rfl,rfl⟩:=hcs;exact⟨[],.inl ⟨rfl,rfl,rfl,rfl⟩⟩
  .simp[Value.cells] at hcs;obtain⟨rfl,rfl,rfl⟩:=hcs;exact⟨zs,.inr ⟨_,rfl,hl,hm,Acj,hcell,hwz⟩⟩
 clear hA0 hval0;obtain⟨⟨E,hE⟩,hH⟩:=Lh hL;refine(Lg a0 ayr cap0 z0 E W w0 hE hH).mono λe W' ⟨he,bel⟩=>?_
 subst he;exact⟨_,rfl,_,_,_,[],_,q,hW',trodAll_mk1 (shut_bool underlying4 _),(trodAll_cons_mk (Below.trod laidOut Aab (of_decide_eq_true Aab) k0 bel lt0) trodAll_mk0),Below.trodVars laidOut bel Aab hV1,bel.frame _,λh=>Aar⟩
theorem closed:joinedFacts Tryz.pinned.checked.prog 4 Tryz.f4 Rows.fnReplaySpec Rows.fnReplayRow=true:=by
 unfold joinedFacts;simp only[Bool.and_eq_true];repeat' apply And.intro
 all_goals (as_aux_lemma=>kernel_rfl)
theorem over:Rows.FnReplaySaid:=
 OpenClaim.holds_of_wide 4 Tryz.f4 rfl rfl rfl rfl rfl rfl rfl ⟨rfl,rfl,rfl,rfl,rfl⟩ rfl rfl rfl rfl rfl Aab func4 closed
  (of_decide_eq_true Aab) (by unfold Func.isWrapper;first|(rw [if_pos (by decide+kernel)];kernel_rfl)|(rw [if_neg (by decide+kernel)];exact⟨rfl,rfl⟩))
  (λos started H enc _=>lifted os started H enc)
theorem plain (f:FuncId) (fn:Func) (hf:Tryz.pinned.checked.prog.funcNamed "loop.example/g00264/laws.FnReplay" =some f) (hfn:Tryz.pinned.checked.prog.funcs[f]?=some fn):
 Rows.fnReplayCard.stood.looks=Tryz.pinned.checked.prog.looks []/\∀(j:Nat) t,fn.params[j]?=some t->Tryz.pinned.checked.prog.wantsStandIn t=false:=by
 obtain rfl:f=4:=Option.some.inj ((show prog.funcNamed "loop.example/g00264/laws.FnReplay" =some 4 by kernel_rfl).symm.trans hf) |>.symm
 obtain rfl:fn=Tryz.f4:=(Option.some.inj (func4.symm.trans hfn)).symm;refine⟨Aab,λj t ht=>?_⟩;rw [params4] at ht;have hm:t∈[22]:=by simpa using Array.mem_of_getElem? ht
 have hall:([22].all λu=> !prog.wantsStandIn u)=true:=Aab
 exact(show prog.wantsStandIn t=false by simpa using List.all_eq_true.1 hall t hm)
theorem proved:Rows.FnReplayCardSaid:=
 Claim7.holds_tied_plain_at .later [] _ _ _ _ over (λ_ h=>Aar) Aab (λ_ h=>Aar) fnReplay_row_tie rfl ⟨rfl,rfl⟩ Aab rfl plain Aab
#print axioms proved
end Go.Proofs.YtacgbldlonoaaaaGreatDoor.fnReplay
