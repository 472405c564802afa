/-
  Proved: at every argument the law 'FnExactKeeperCrash' returns true, and each argument reads behind the call as it read before; the package-level variables that the row lists start as the program's text lays them (the card ties them). No other condition.
-/
import Derived.Test.YtohmklmkjmlpjaaGreatDoorCards
import Derived.Test.YtohmklmkjmlpjaaGreatDoorTie
import Derived.Test.YtohmklmkjmlpjaaGreatDoorRc45
import Derived.Test.YtohmklmkjmlpjaaGreatDoorRc37
namespace Go.Proofs.YtohmklmkjmlpjaaGreatDoor.fnExactKeeperCrash
open Go.Proofs.Tryz
set_option maxHeartbeats 100000000
set_option maxRecDepth 100000
open Go.ChangeShapes Go.WideShapes Go.ChangeAt Go.RowKit
open Go.ChangeMaps (open_string shut_string)
set_option linter.unusedVariables false
theorem own:ownKnob prog.godebug=none:=Aab
theorem laidOut:laidOutB prog=true:=Aab
theorem abQ (os:Os) (args:Array Value):laidMetH prog Rows.fnExactKeeperCrashRow.laid ((World.doorLaid prog 400 os).forCall (λ_ _=>0) ⟨#[],args,[]⟩).memory:=
 laidMetH_of_parts3 (fuel:=8) (laidMet_of_run' 8 Aab Aab) Aab Aab
theorem lifted (os:Os) (started:os.Started) (H:Type) (enc:TypeId×Value->H):
 ReturnsInHanded {} Tryz.checked os 4 .any (λw args=>(Rows.fnExactKeeperCrashSpec.pre enc prog Tryz.f4 [] false w args/\laidMetH prog Rows.fnExactKeeperCrashRow.laid w)/\sizedMet enc prog Tryz.f4 (OpenSpec.ofChange Rows.fnExactKeeperCrashSpec) false w args)
  (Rows.fnExactKeeperCrashSpec.post enc prog Tryz.f4 false true false false):=by
 refine returnsInHanded_of_change_and (C:=Tryz.checked) (X:=λw _=>laidMetH prog Rows.fnExactKeeperCrashRow.laid w) (λ_ _ _ hh h=>h.of_heap hh) own started Aab func4
  (ChangeSpec.witness_shaped (enc:=enc) (C:=Tryz.checked) (os:=os) (X:=λw _=>laidMetH prog Rows.fnExactKeeperCrashRow.laid w) false (World.doorLaid prog 400 os) #[.agg #[.int .i64 0,.int .i64 0,.slice none 0 0,.int .i64 0,.slice none 0 0,.slice none 0 0,.slice none 0 0,.int .i64 0,.slice none 0 0,.int .i64 0,.int .i64 0,.slice none 0 0,.int .i64 0,.slice none 0 0,.slice none 0 0,.slice none 0 0,.int .i64 0,.slice none 0 0,.string ByteArray.empty,.int .i64 0,.slice none 0 0,.slice none 0 0],.int .i64 0] 8 rfl (World.shaped_of_RefB Aab Aab) Aab Aab Aab (abQ os _)) ?_
 intro W base args ds gs before hval0 hW _ _ hL _;have hval:∀(j:Nat) t v,Tryz.f4.params[j]?=some t->args[j]?=some v->Value.okWide prog W .any base t v:=hval0;have hW':=hW;obtain⟨p,q,hA0,hV,rfl,hfz,hnd⟩:=hW;have hA:DataW.TrodAll enc prog W 0 (λ_=>true) true Tryz.f4.params.toList args.toList ds p:=hA0;rw [params4] at hA hval;obtain⟨v0,vs0,d0,ds0,p0,q0,hargs,rfl,rfl,h0,r0⟩:=trodAll_cons hA;obtain⟨v1,vs1,d1,ds1,p1,q1,rfl,rfl,rfl,h1,r1⟩:=trodAll_cons r0;obtain⟨rfl,rfl,rfl⟩:=trodAll_nil r1;obtain rfl:args=#[v0,v1]:=by cases args;simp_all
 have hV1:=hV;obtain⟨gv0,gv1,gv2,gv3,gv4,rfl⟩:=Vr (Bd hV);have k0:=h0;have lt0:∀x∈p0,x.block < W.heap.size:=by obtain⟨m,hm⟩:=k0;exact DataW.trod_lt m _ _ _ hm
 obtain⟨n0,A0,rfl,z0,w0⟩:=QH (hval 0 32 v0 rfl rfl) h0;obtain⟨a1,rfl,rfl,rfl,w1⟩:=open_int underlying3 (hval 1 3 v1 rfl rfl) h1;clear hA0 hval0;obtain⟨⟨E,hE⟩,hH⟩:=uK hL;refine(sU n0 A0 a1 z0 E W w0 hE hH).mono λe W' ⟨he,bel⟩=>?_
 subst he;exact⟨_,rfl,_,_,_,[],_,q,hW',trodAll_mk1 (shut_bool underlying4 _),(trodAll_cons_mk (Below.trod laidOut Aab (aGw Aab) k0 bel lt0) (trodAll_cons_mk (shut_int underlying3 w1) trodAll_mk0)),Below.trodVars laidOut bel Aab hV1,bel.frame _,λh=>Aat⟩
theorem closed:joinedFacts Tryz.pinned.checked.prog 4 Tryz.f4 Rows.fnExactKeeperCrashSpec Rows.fnExactKeeperCrashRow=true:=by
 unfold joinedFacts;simp only[aGl];repeat' apply And.intro
 all_goals (as_aux_lemma=>kernel_rfl)
theorem over:Rows.FnExactKeeperCrashSaid:=
 OpenClaim.holds_of_wide 4 Tryz.f4 rfl rfl rfl rfl rfl rfl rfl ⟨rfl,rfl,rfl,rfl,rfl⟩ rfl rfl rfl rfl rfl Aab func4 closed
  (aGw Aab) (by unfold Func.isWrapper;first|(rw [aGC (by decide+kernel)];kernel_rfl)|(rw [aGr (by decide+kernel)];exact⟨rfl,rfl⟩))
  (λos started H enc _=>lifted os started H enc)
theorem plain (f:FuncId) (fn:Func) (hf:Tryz.pinned.checked.prog.funcNamed "loop.example/g00264/laws.FnExactKeeperCrash" =some f) (hfn:Tryz.pinned.checked.prog.funcs[f]?=some fn):
 Rows.fnExactKeeperCrashCard.stood.looks=Tryz.pinned.checked.prog.looks []/\∀(j:Nat) t,fn.params[j]?=some t->Tryz.pinned.checked.prog.wantsStandIn t=false:=by
 obtain rfl:f=4:=aHd ((show prog.funcNamed "loop.example/g00264/laws.FnExactKeeperCrash" =some 4 by kernel_rfl).symm.trans hf) |>.symm
 obtain rfl:fn=Tryz.f4:=(aHd (func4.symm.trans hfn)).symm;refine⟨Aab,λj t ht=>?_⟩;rw [params4] at ht;have hm:t∈[32,3]:=by simpa using Array.mem_of_getElem? ht
 have hall:([32,3].all λu=> !prog.wantsStandIn u)=true:=Aab
 exact(show prog.wantsStandIn t=false by simpa using aHX.1 hall t hm)
theorem proved:Rows.FnExactKeeperCrashCardSaid:=
 Claim7.holds_tied_plain_at .later [] _ _ _ _ over (λ_ h=>Aat) Aab (λ_ h=>Aat) fnExactKeeperCrash_row_tie rfl ⟨rfl,rfl⟩ Aab rfl plain Aab
#print axioms proved
end Go.Proofs.YtohmklmkjmlpjaaGreatDoor.fnExactKeeperCrash
