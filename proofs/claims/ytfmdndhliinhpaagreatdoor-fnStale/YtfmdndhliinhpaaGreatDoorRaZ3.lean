/-
  Parts of proofs that stand more than once, each said once.
-/
import Derived.Test.YtfmdndhliinhpaaGreatDoorRaZ2
namespace Go.Proofs.YtfmdndhliinhpaaGreatDoor
set_option maxRecDepth 100000
variable{P:Prop}
theorem aii.Ka65(h:P:=by
 cases k with
 |zero=>
  obtain⟨g,off,rfl,hgw,c0,c1,c2,c3⟩:=aH.four (GR.At.below HA fG) 0 hlt
  simp only[Nat.zero_mul,Nat.add_zero] at c0 c1 c2 c3
  have hgt:decide ((0:Int) < ((0:Nat):Int))=false:=rfl
  have iF:=hide hat
  have fP:=hide (kV (jA l) 0)
  clear hat
  generalize l[0]=pu at *
  obtain⟨pk,pm,pf,ps⟩:=pu
  dsimp only at c0 c1 c2 c3 hks
  cases hkb:keyOk pk.data.toList
  ·have HB:=hide hkb;have HBAD:=hide (gV hlt (show jA l 0=false by rw [ah iF];simp[fT,ah HB]));clear iF fP;have hkb':=ah HB;exact adr
  have hkb':=hkb
  by_cases h1:0≤pm∧pm≤1000000000
  case' neg=>
   have hA:nS pm=false:=decide_eq_false h1
   have g1:decide (tC pm 0 1000000000)=false:=decide_eq_false h1
   have HBAD:=hide (gV hlt (show jA l 0=false by rw [ah iF];simp[fT,hA]))
   clear iF fP hA
   go_wp2_with fail
   refine wp_region_quiet_lit (by kernel_rfl) (by kernel_rfl) ?_
   repeat (first|go_big_quiet_step ((first|(go_at_call 25;exact nu _ _ hks hkb' _ _)|(go_at_call_of 22 (IntKind.i64.wrap (pf+ps));exact fI _ _ g4 _ _)|(go_at_call_of 22 (pf+ps);exact fI _ _ g5 _ _)|(go_at_call_of 22 pm;exact fI _ _ g1 _ _)|(go_at_call_of 22 pf;exact fI _ _ g2 _ _)|(go_at_call_of 22 ps;exact fI _ _ g3 _ _)))|quiet_step ((first|(go_at_call 25;exact nu _ _ hks hkb' _ _)|(go_at_call_of 22 (IntKind.i64.wrap (pf+ps));exact fI _ _ g4 _ _)|(go_at_call_of 22 (pf+ps);exact fI _ _ g5 _ _)|(go_at_call_of 22 pm;exact fI _ _ g1 _ _)|(go_at_call_of 22 pf;exact fI _ _ g2 _ _)|(go_at_call_of 22 ps;exact fI _ _ g3 _ _))))
   refine wpQuiet_nil ?_
   intro _ hw'
   obtain⟨nq,hw''⟩:=hw'
   subst hw''
   go_wp2_with fail
   go_ret
   exact⟨aD HBAD.symm,(fG.alloc fG.size _).trans ⟨rfl,rfl,rfl,Nat.le_refl _,fun _ _=>rfl⟩⟩
  have g1:decide (tC pm 0 1000000000)=true:=decide_eq_true h1
  have hA1:nS pm=true:=decide_eq_true h1
  by_cases h2:0≤pf∧pf≤1000000000
  case' neg=>
   have hA:nS pf=false:=decide_eq_false h2
   have g2:decide (tC pf 0 1000000000)=false:=decide_eq_false h2
   have HBAD:=hide (gV hlt (show jA l 0=false by rw [ah iF];simp[fT,hA]))
   clear iF fP hA
   go_wp2_with fail
   refine wp_region_quiet_lit (by kernel_rfl) (by kernel_rfl) ?_
   repeat (first|go_big_quiet_step ((first|(go_at_call 25;exact nu _ _ hks hkb' _ _)|(go_at_call_of 22 (IntKind.i64.wrap (pf+ps));exact fI _ _ g4 _ _)|(go_at_call_of 22 (pf+ps);exact fI _ _ g5 _ _)|(go_at_call_of 22 pm;exact fI _ _ g1 _ _)|(go_at_call_of 22 pf;exact fI _ _ g2 _ _)|(go_at_call_of 22 ps;exact fI _ _ g3 _ _)))|quiet_step ((first|(go_at_call 25;exact nu _ _ hks hkb' _ _)|(go_at_call_of 22 (IntKind.i64.wrap (pf+ps));exact fI _ _ g4 _ _)|(go_at_call_of 22 (pf+ps);exact fI _ _ g5 _ _)|(go_at_call_of 22 pm;exact fI _ _ g1 _ _)|(go_at_call_of 22 pf;exact fI _ _ g2 _ _)|(go_at_call_of 22 ps;exact fI _ _ g3 _ _))))
   refine wpQuiet_nil ?_
   intro _ hw'
   obtain⟨nq,hw''⟩:=hw'
   subst hw''
   go_wp2_with fail
   go_ret
   exact⟨aD HBAD.symm,(fG.alloc fG.size _).trans ⟨rfl,rfl,rfl,Nat.le_refl _,fun _ _=>rfl⟩⟩
  have g2:decide (tC pf 0 1000000000)=true:=decide_eq_true h2
  have hA2:nS pf=true:=decide_eq_true h2
  by_cases h3:0≤ps∧ps≤1000000000
  case' neg=>
   have hA:nS ps=false:=decide_eq_false h3
   have g3:decide (tC ps 0 1000000000)=false:=decide_eq_false h3
   have HBAD:=hide (gV hlt (show jA l 0=false by rw [ah iF];simp[fT,hA]))
   clear iF fP hA
   go_wp2_with fail
   refine wp_region_quiet_lit (by kernel_rfl) (by kernel_rfl) ?_
   repeat (first|go_big_quiet_step ((first|(go_at_call 25;exact nu _ _ hks hkb' _ _)|(go_at_call_of 22 (IntKind.i64.wrap (pf+ps));exact fI _ _ g4 _ _)|(go_at_call_of 22 (pf+ps);exact fI _ _ g5 _ _)|(go_at_call_of 22 pm;exact fI _ _ g1 _ _)|(go_at_call_of 22 pf;exact fI _ _ g2 _ _)|(go_at_call_of 22 ps;exact fI _ _ g3 _ _)))|quiet_step ((first|(go_at_call 25;exact nu _ _ hks hkb' _ _)|(go_at_call_of 22 (IntKind.i64.wrap (pf+ps));exact fI _ _ g4 _ _)|(go_at_call_of 22 (pf+ps);exact fI _ _ g5 _ _)|(go_at_call_of 22 pm;exact fI _ _ g1 _ _)|(go_at_call_of 22 pf;exact fI _ _ g2 _ _)|(go_at_call_of 22 ps;exact fI _ _ g3 _ _))))
   refine wpQuiet_nil ?_
   intro _ hw'
   obtain⟨nq,hw''⟩:=hw'
   subst hw''
   go_wp2_with fail
   go_ret
   exact⟨aD HBAD.symm,(fG.alloc fG.size _).trans ⟨rfl,rfl,rfl,Nat.le_refl _,fun _ _=>rfl⟩⟩
  have g3:decide (tC ps 0 1000000000)=true:=decide_eq_true h3
  have hA3:nS ps=true:=decide_eq_true h3
  have e4:IntKind.i64.wrap (pf+ps)=pf+ps:=IntWalk.i64_in _ ⟨by omega,by omega⟩
  by_cases h4:0≤(pf+ps)∧(pf+ps)≤1000000000
  case' neg=>
   have hA:nS (pf+ps)=false:=decide_eq_false h4
   have g4:decide (tC (pf+ps) 0 1000000000)=false:=decide_eq_false h4
   have g5:=g4
   rw [←e4] at g4
   have HBAD:=hide (gV hlt (show jA l 0=false by rw [ah iF];simp[fT,hA]))
   clear iF fP hA
   go_wp2_with fail
   refine wp_region_quiet_lit (by kernel_rfl) (by kernel_rfl) ?_
   repeat (first|go_big_quiet_step ((first|(go_at_call 25;exact nu _ _ hks hkb' _ _)|(go_at_call_of 22 (IntKind.i64.wrap (pf+ps));exact fI _ _ g4 _ _)|(go_at_call_of 22 (pf+ps);exact fI _ _ g5 _ _)|(go_at_call_of 22 pm;exact fI _ _ g1 _ _)|(go_at_call_of 22 pf;exact fI _ _ g2 _ _)|(go_at_call_of 22 ps;exact fI _ _ g3 _ _)))|quiet_step ((first|(go_at_call 25;exact nu _ _ hks hkb' _ _)|(go_at_call_of 22 (IntKind.i64.wrap (pf+ps));exact fI _ _ g4 _ _)|(go_at_call_of 22 (pf+ps);exact fI _ _ g5 _ _)|(go_at_call_of 22 pm;exact fI _ _ g1 _ _)|(go_at_call_of 22 pf;exact fI _ _ g2 _ _)|(go_at_call_of 22 ps;exact fI _ _ g3 _ _))))
   refine wpQuiet_nil ?_
   intro _ hw'
   obtain⟨nq,hw''⟩:=hw'
   subst hw''
   go_wp2_with fail
   go_ret
   exact⟨aD HBAD.symm,(fG.alloc fG.size _).trans ⟨rfl,rfl,rfl,Nat.le_refl _,fun _ _=>rfl⟩⟩
  have g4:decide (tC (pf+ps) 0 1000000000)=true:=decide_eq_true h4
  have WU:nS (pf+ps)=true:=decide_eq_true h4
  have g5:=g4
  rw [←e4] at g4
  have AL:=hide (show jA l 0=true by rw [ah iF];simp[fT,hkb,hA1,hA2,hA3,WU])
  clear iF hA1 hA2 hA3 WU
  go_wp2_with fail
  refine wp_region_quiet_lit (by kernel_rfl) (by kernel_rfl) ?_
  repeat (first|go_big_quiet_step ((first|(go_at_call 25;exact nu _ _ hks hkb' _ _)|(go_at_call_of 22 (IntKind.i64.wrap (pf+ps));exact fI _ _ g4 _ _)|(go_at_call_of 22 (pf+ps);exact fI _ _ g5 _ _)|(go_at_call_of 22 pm;exact fI _ _ g1 _ _)|(go_at_call_of 22 pf;exact fI _ _ g2 _ _)|(go_at_call_of 22 ps;exact fI _ _ g3 _ _)))|quiet_step ((first|(go_at_call 25;exact nu _ _ hks hkb' _ _)|(go_at_call_of 22 (IntKind.i64.wrap (pf+ps));exact fI _ _ g4 _ _)|(go_at_call_of 22 (pf+ps);exact fI _ _ g5 _ _)|(go_at_call_of 22 pm;exact fI _ _ g1 _ _)|(go_at_call_of 22 pf;exact fI _ _ g2 _ _)|(go_at_call_of 22 ps;exact fI _ _ g3 _ _))))
  refine wpQuiet_nil ?_
  intro _ hw'
  obtain⟨nq,hw''⟩:=hw'
  subst hw''
  go_wp2_with fail
  go_roundw
  case rel=>exact⟨0+1,by omega,by go_num,by rw [ah fP,ah kQ,ah AL];rfl,(fG.alloc fG.size _).trans ⟨rfl,rfl,rfl,Nat.le_refl _,fun _ _=>rfl⟩⟩
  case measure=>simp[intOf];omega
 |succ j=>
  obtain⟨g,off,rfl,hgw,c0,c1,c2,c3⟩:=aH.four (GR.At.below HA fG) (j+1) hlt
  obtain⟨g',off',e',_,d0,_,_,_⟩:=aH.four (GR.At.below HA fG) j (by omega)
  have eg:g=g'∧off=off':=by injection e' with e';injection e' with e1 e2;exact⟨e1,e2⟩
  obtain⟨rfl,rfl⟩:=eg
  have hgd:l.getD j default=l[j]:=getD_at l j (by omega)
  rw [show j+1 - 1=j from rfl,hgd] at hat
  have hgt:decide ((0:Int) < ((j:Int)+1))=true:=decide_eq_true (by omega)
  clear e' hgd
  generalize l[j].k=q at *
  have iF:=hide hat
  have fP:=hide (kV (jA l) (j+1))
  clear hat
  generalize l[j+1]=pu at *
  obtain⟨pk,pm,pf,ps⟩:=pu
  dsimp only at c0 c1 c2 c3 hks
  cases hkb:keyOk pk.data.toList
  ·have HB:=hide hkb;have HBAD:=hide (gV hlt (show jA l (j+1)=false by rw [ah iF];simp[fT,ah HB]));clear iF fP;have hkb':=ah HB;exact adr
  have hkb':=hkb
  cases hbl:Op.bytesLess pk.toList q.toList
  case' true=>
   have hsl:sle pk q=true:=by unfold sle;rw [hbl];rfl
   cases heq:pk.toList == q.toList
   ·exact abL
   ·exact abL
  cases heq:pk.toList == q.toList
  case' true=>
   have hsl:sle pk q=true:=by unfold sle;rw [hbl,heq];rfl
   have HBAD:=hide (gV hlt (show jA l (j+1)=false by rw [ah iF];simp[hsl]))
   clear iF fP hsl
   go_wp2_with fail
   refine wp_region_quiet_lit (by kernel_rfl) (by kernel_rfl) ?_
   repeat (first|go_big_quiet_step ((first|(go_at_call 25;exact nu _ _ hks hkb' _ _)|(go_at_call_of 22 (IntKind.i64.wrap (pf+ps));exact fI _ _ g4 _ _)|(go_at_call_of 22 (pf+ps);exact fI _ _ g5 _ _)|(go_at_call_of 22 pm;exact fI _ _ g1 _ _)|(go_at_call_of 22 pf;exact fI _ _ g2 _ _)|(go_at_call_of 22 ps;exact fI _ _ g3 _ _)))|quiet_step ((first|(go_at_call 25;exact nu _ _ hks hkb' _ _)|(go_at_call_of 22 (IntKind.i64.wrap (pf+ps));exact fI _ _ g4 _ _)|(go_at_call_of 22 (pf+ps);exact fI _ _ g5 _ _)|(go_at_call_of 22 pm;exact fI _ _ g1 _ _)|(go_at_call_of 22 pf;exact fI _ _ g2 _ _)|(go_at_call_of 22 ps;exact fI _ _ g3 _ _))))
   refine wpQuiet_nil ?_
   intro _ hw'
   obtain⟨nq,hw''⟩:=hw'
   subst hw''
   go_wp2_with fail
   go_ret
   exact⟨aD HBAD.symm,(fG.alloc fG.size _).trans ⟨rfl,rfl,rfl,Nat.le_refl _,fun _ _=>rfl⟩⟩
  have hsl:Hid (sle pk q=false):=by unfold sle;rw [hbl,heq];rfl
  by_cases h1:0≤pm∧pm≤1000000000
  case' neg=>
   have hA:nS pm=false:=decide_eq_false h1
   have g1:decide (tC pm 0 1000000000)=false:=decide_eq_false h1
   have HBAD:=hide (gV hlt (show jA l (j+1)=false by rw [ah iF];simp[fT,hA]))
   clear iF fP hA
   go_wp2_with fail
   refine wp_region_quiet_lit (by kernel_rfl) (by kernel_rfl) ?_
   repeat (first|go_big_quiet_step ((first|(go_at_call 25;exact nu _ _ hks hkb' _ _)|(go_at_call_of 22 (IntKind.i64.wrap (pf+ps));exact fI _ _ g4 _ _)|(go_at_call_of 22 (pf+ps);exact fI _ _ g5 _ _)|(go_at_call_of 22 pm;exact fI _ _ g1 _ _)|(go_at_call_of 22 pf;exact fI _ _ g2 _ _)|(go_at_call_of 22 ps;exact fI _ _ g3 _ _)))|quiet_step ((first|(go_at_call 25;exact nu _ _ hks hkb' _ _)|(go_at_call_of 22 (IntKind.i64.wrap (pf+ps));exact fI _ _ g4 _ _)|(go_at_call_of 22 (pf+ps);exact fI _ _ g5 _ _)|(go_at_call_of 22 pm;exact fI _ _ g1 _ _)|(go_at_call_of 22 pf;exact fI _ _ g2 _ _)|(go_at_call_of 22 ps;exact fI _ _ g3 _ _))))
   refine wpQuiet_nil ?_
   intro _ hw'
   obtain⟨nq,hw''⟩:=hw'
   subst hw''
   go_wp2_with fail
   go_ret
   exact⟨aD HBAD.symm,(fG.alloc fG.size _).trans ⟨rfl,rfl,rfl,Nat.le_refl _,fun _ _=>rfl⟩⟩
  have g1:decide (tC pm 0 1000000000)=true:=decide_eq_true h1
  have hA1:nS pm=true:=decide_eq_true h1
  by_cases h2:0≤pf∧pf≤1000000000
  case' neg=>
   have hA:nS pf=false:=decide_eq_false h2
   have g2:decide (tC pf 0 1000000000)=false:=decide_eq_false h2
   have HBAD:=hide (gV hlt (show jA l (j+1)=false by rw [ah iF];simp[fT,hA]))
   clear iF fP hA
   go_wp2_with fail
   refine wp_region_quiet_lit (by kernel_rfl) (by kernel_rfl) ?_
   repeat (first|go_big_quiet_step ((first|(go_at_call 25;exact nu _ _ hks hkb' _ _)|(go_at_call_of 22 (IntKind.i64.wrap (pf+ps));exact fI _ _ g4 _ _)|(go_at_call_of 22 (pf+ps);exact fI _ _ g5 _ _)|(go_at_call_of 22 pm;exact fI _ _ g1 _ _)|(go_at_call_of 22 pf;exact fI _ _ g2 _ _)|(go_at_call_of 22 ps;exact fI _ _ g3 _ _)))|quiet_step ((first|(go_at_call 25;exact nu _ _ hks hkb' _ _)|(go_at_call_of 22 (IntKind.i64.wrap (pf+ps));exact fI _ _ g4 _ _)|(go_at_call_of 22 (pf+ps);exact fI _ _ g5 _ _)|(go_at_call_of 22 pm;exact fI _ _ g1 _ _)|(go_at_call_of 22 pf;exact fI _ _ g2 _ _)|(go_at_call_of 22 ps;exact fI _ _ g3 _ _))))
   refine wpQuiet_nil ?_
   intro _ hw'
   obtain⟨nq,hw''⟩:=hw'
   subst hw''
   go_wp2_with fail
   go_ret
   exact⟨aD HBAD.symm,(fG.alloc fG.size _).trans ⟨rfl,rfl,rfl,Nat.le_refl _,fun _ _=>rfl⟩⟩
  have g2:decide (tC pf 0 1000000000)=true:=decide_eq_true h2
  have hA2:nS pf=true:=decide_eq_true h2
  by_cases h3:0≤ps∧ps≤1000000000
  case' neg=>
   have hA:nS ps=false:=decide_eq_false h3
   have g3:decide (tC ps 0 1000000000)=false:=decide_eq_false h3
   have HBAD:=hide (gV hlt (show jA l (j+1)=false by rw [ah iF];simp[fT,hA]))
   clear iF fP hA
   go_wp2_with fail
   refine wp_region_quiet_lit (by kernel_rfl) (by kernel_rfl) ?_
   repeat (first|go_big_quiet_step ((first|(go_at_call 25;exact nu _ _ hks hkb' _ _)|(go_at_call_of 22 (IntKind.i64.wrap (pf+ps));exact fI _ _ g4 _ _)|(go_at_call_of 22 (pf+ps);exact fI _ _ g5 _ _)|(go_at_call_of 22 pm;exact fI _ _ g1 _ _)|(go_at_call_of 22 pf;exact fI _ _ g2 _ _)|(go_at_call_of 22 ps;exact fI _ _ g3 _ _)))|quiet_step ((first|(go_at_call 25;exact nu _ _ hks hkb' _ _)|(go_at_call_of 22 (IntKind.i64.wrap (pf+ps));exact fI _ _ g4 _ _)|(go_at_call_of 22 (pf+ps);exact fI _ _ g5 _ _)|(go_at_call_of 22 pm;exact fI _ _ g1 _ _)|(go_at_call_of 22 pf;exact fI _ _ g2 _ _)|(go_at_call_of 22 ps;exact fI _ _ g3 _ _))))
   refine wpQuiet_nil ?_
   intro _ hw'
   obtain⟨nq,hw''⟩:=hw'
   subst hw''
   go_wp2_with fail
   go_ret
   exact⟨aD HBAD.symm,(fG.alloc fG.size _).trans ⟨rfl,rfl,rfl,Nat.le_refl _,fun _ _=>rfl⟩⟩
  have g3:decide (tC ps 0 1000000000)=true:=decide_eq_true h3
  have hA3:nS ps=true:=decide_eq_true h3
  have e4:IntKind.i64.wrap (pf+ps)=pf+ps:=IntWalk.i64_in _ ⟨by omega,by omega⟩
  by_cases h4:0≤(pf+ps)∧(pf+ps)≤1000000000
  case' neg=>
   have hA:nS (pf+ps)=false:=decide_eq_false h4
   have g4:decide (tC (pf+ps) 0 1000000000)=false:=decide_eq_false h4
   have g5:=g4
   rw [←e4] at g4
   have HBAD:=hide (gV hlt (show jA l (j+1)=false by rw [ah iF];simp[fT,hA]))
   clear iF fP hA
   go_wp2_with fail
   refine wp_region_quiet_lit (by kernel_rfl) (by kernel_rfl) ?_
   repeat (first|go_big_quiet_step ((first|(go_at_call 25;exact nu _ _ hks hkb' _ _)|(go_at_call_of 22 (IntKind.i64.wrap (pf+ps));exact fI _ _ g4 _ _)|(go_at_call_of 22 (pf+ps);exact fI _ _ g5 _ _)|(go_at_call_of 22 pm;exact fI _ _ g1 _ _)|(go_at_call_of 22 pf;exact fI _ _ g2 _ _)|(go_at_call_of 22 ps;exact fI _ _ g3 _ _)))|quiet_step ((first|(go_at_call 25;exact nu _ _ hks hkb' _ _)|(go_at_call_of 22 (IntKind.i64.wrap (pf+ps));exact fI _ _ g4 _ _)|(go_at_call_of 22 (pf+ps);exact fI _ _ g5 _ _)|(go_at_call_of 22 pm;exact fI _ _ g1 _ _)|(go_at_call_of 22 pf;exact fI _ _ g2 _ _)|(go_at_call_of 22 ps;exact fI _ _ g3 _ _))))
   refine wpQuiet_nil ?_
   intro _ hw'
   obtain⟨nq,hw''⟩:=hw'
   subst hw''
   go_wp2_with fail
   go_ret
   exact⟨aD HBAD.symm,(fG.alloc fG.size _).trans ⟨rfl,rfl,rfl,Nat.le_refl _,fun _ _=>rfl⟩⟩
  have g4:decide (tC (pf+ps) 0 1000000000)=true:=decide_eq_true h4
  have WU:nS (pf+ps)=true:=decide_eq_true h4
  have g5:=g4
  rw [←e4] at g4
  have AL:=hide (show jA l (j+1)=true by rw [ah iF];simp[fT,hkb,hA1,hA2,hA3,WU,ah hsl])
  clear iF hA1 hA2 hA3 WU
  go_wp2_with fail
  refine wp_region_quiet_lit (by kernel_rfl) (by kernel_rfl) ?_
  repeat (first|go_big_quiet_step ((first|(go_at_call 25;exact nu _ _ hks hkb' _ _)|(go_at_call_of 22 (IntKind.i64.wrap (pf+ps));exact fI _ _ g4 _ _)|(go_at_call_of 22 (pf+ps);exact fI _ _ g5 _ _)|(go_at_call_of 22 pm;exact fI _ _ g1 _ _)|(go_at_call_of 22 pf;exact fI _ _ g2 _ _)|(go_at_call_of 22 ps;exact fI _ _ g3 _ _)))|quiet_step ((first|(go_at_call 25;exact nu _ _ hks hkb' _ _)|(go_at_call_of 22 (IntKind.i64.wrap (pf+ps));exact fI _ _ g4 _ _)|(go_at_call_of 22 (pf+ps);exact fI _ _ g5 _ _)|(go_at_call_of 22 pm;exact fI _ _ g1 _ _)|(go_at_call_of 22 pf;exact fI _ _ g2 _ _)|(go_at_call_of 22 ps;exact fI _ _ g3 _ _))))
  refine wpQuiet_nil ?_
  intro _ hw'
  obtain⟨nq,hw''⟩:=hw'
  subst hw''
  go_wp2_with fail
  go_roundw
  case rel=>exact⟨(j+1)+1,by omega,by go_num,by rw [ah fP,ah kQ,ah AL];rfl,(fG.alloc fG.size _).trans ⟨rfl,rfl,rfl,Nat.le_refl _,fun _ _=>rfl⟩⟩
  case measure=>simp[intOf];omega):P:=h
theorem aij.Ka65(h:P:=by
 cases k with
 |zero=>
  obtain⟨g,off,rfl,hgw,c0,c1,c2,c3⟩:=aH.four (GR.At.below HA fG) 0 hlt
  simp only[Nat.zero_mul,Nat.add_zero] at c0 c1 c2 c3
  have hgt:decide ((0:Int) < ((0:Nat):Int))=false:=rfl
  have iF:=hide hat
  have fP:=hide (kV (jA l) 0)
  clear hat
  generalize l[0]=pu at *
  cases hpo:fT pu
  ·have HO:=hide (fun w1=>nD pu false w1 hpo);have HBAD:=hide (gV hlt (show jA l 0=false by rw [ah iF,hpo];rfl));clear iF fP hpo;obtain⟨pk,pm,pf,ps⟩:=pu;dsimp only at c0 c1 c2 c3;open afE in exact Tz
  ·have HO:=hide (fun w1=>nD pu true w1 hpo);have AL:=hide (show jA l 0=true by rw [ah iF,hpo];rfl);clear iF hpo;obtain⟨pk,pm,pf,ps⟩:=pu;dsimp only at c0 c1 c2 c3;open afD in exact Tz
 |succ j=>
  have hlt2:j < l.length:=by omega
  obtain⟨g,off,rfl,hgw,c0,c1,c2,c3⟩:=aH.four (GR.At.below HA fG) (j+1) hlt
  obtain⟨g2,off2,e2,adV,d0,d1,d2,d3⟩:=aH.four (GR.At.below HA fG) j hlt2
  have e3:g=g2:=by injection e2 with e2;injection e2 with e2 e4
  have e4:off=off2:=by injection e2 with e2;injection e2 with e2 e4
  subst e3 e4
  clear e2 adV d1 d2 d3
  have hgt:decide ((0:Int) < ((j+1:Nat):Int))=true:=decide_eq_true (by omega)
  have ej:IntKind.i64.wrap (((j+1:Nat):Int) - 1)=(j:Int):=by rw [IntWalk.i64_in _ ⟨by omega,by omega⟩];omega
  rw [show j+1 - 1=j by omega,getD_at l j hlt2] at hat
  have iF:=hide hat
  have fP:=hide (kV (jA l) (j+1))
  clear hat
  generalize l[j+1]=pu at *
  generalize l[j]=pq at *
  obtain⟨q,qm,qf,qs⟩:=pq
  dsimp only at d0
  cases hpo:fT pu
  ·have HO:=hide (fun w1=>nD pu false w1 hpo);have HBAD:=hide (gV hlt (show jA l (j+1)=false by rw [ah iF,hpo];rfl));clear iF fP hpo;obtain⟨pk,pm,pf,ps⟩:=pu;dsimp only at c0 c1 c2 c3;open afC in exact Tz
  ·have HO:=hide (fun w1=>nD pu true w1 hpo);cases hsl:Op.bytesLess q.toList pu.k.toList
   ·have HBAD:=hide (gV hlt (show jA l (j+1)=false by rw [ah iF,hpo];dsimp only;rw [←JO,hsl];simp));clear iF fP hpo;obtain⟨pk,pm,pf,ps⟩:=pu;dsimp only at c0 c1 c2 c3 hsl;open afB in exact Tz
   ·have AL:=hide (show jA l (j+1)=true by rw [ah iF,hpo];dsimp only;rw [←JO,hsl];simp);clear iF hpo;obtain⟨pk,pm,pf,ps⟩:=pu;dsimp only at c0 c1 c2 c3 hsl;open afA in exact Tz):P:=h
theorem adh(h:P:=by
 go_wp2_with fail;refine (ah xR).mono ?_;clear xR;rintro e wp ⟨y, rfl, _, hcx, hkx⟩;have HS2 := hide (((ah CG).new _).draw hcx hkx);clear hcx hkx CG;obtain ⟨c0, c1, c2, c3, c4, c5, c6, c7, c8⟩ := nine (ah HS2).own;exact Ka66):P:=h
theorem aik.Ka66(h:P:=by
 have ff := aj (ah HS2).own 7;have hgl := aA (ah HS2).own;go_wp2_with fail;go_meet
 case rel => exact ⟨rfl, { n1 with old := y }, A1, (ah HS2).put 7 (.int .i64 y) rfl rfl rfl rfl rfl rfl⟩):P:=h
theorem ail.Ka66(h:P:=by
 have ff := aj (ah HS2).own 3;have hgl := aA (ah HS2).own;go_wp2_with fail;go_meet
 case rel => exact ⟨rfl, { n1 with next := y }, A1, (ah HS2).put 3 (.int .i64 y) rfl rfl rfl rfl rfl rfl⟩):P:=h
theorem ain.Ka66(h:P:=by
 have ff := aj (ah HS2).own 1;have hgl := aA (ah HS2).own;go_wp2_with fail;go_meet
 case rel => exact ⟨rfl, { n1 with par := y }, A1, (ah HS2).put 1 (.int .i64 y) rfl rfl rfl rfl rfl rfl⟩):P:=h
theorem apY(h:P:=by
 open ak7 in exact SK):P:=h
theorem aio.Ka67(h:P:=by
 open atC in exact Fe):P:=h
theorem aip.Ka67(h:P:=by
 open atA in exact Fe):P:=h
theorem apZ(h:P:=by
 obtain⟨e1,e2,e3,e4⟩:=fJ w (.cells (fO n A) 30) (.cells #[.int .i64 4,.int .i64 no,.string k,.int .i64 nn,.int .i64 mK,.int .i64 mF,.int .i64 mT,.int .i64 mI,.int .i64 mL,.string mk,.int .i64 mN] 34) (.cells iV 30);have hsz:(((w.alloc (.cells (fO n A) 30)).alloc (.cells #[.int .i64 4,.int .i64 no,.string k,.int .i64 nn,.int .i64 mK,.int .i64 mF,.int .i64 mT,.int .i64 mI,.int .i64 mL,.string mk,.int .i64 mN] 34)).alloc (.cells iV 30)).heap.size=w.heap.size+3:=by simp
 generalize hW0:((w.alloc (.cells (fO n A) 30)).alloc (.cells #[.int .i64 4,.int .i64 no,.string k,.int .i64 nn,.int .i64 mK,.int .i64 mF,.int .i64 mT,.int .i64 mI,.int .i64 mL,.string mk,.int .i64 mN] 34)).alloc (.cells iV 30)=W0 at *;exact Ka68):P:=h
theorem aiq.Ka68(h:P:=by
 exact aql):P:=h
theorem air.Ka68(h:P:=by
 exact Za8):P:=h
theorem ap0(h:P:=by
 obtain⟨e1,e2,e3,e4⟩:=fJ w (.cells (fO n A) 30) (.cells #[.int .i64 3,.int .i64 no,.string k,.int .i64 nn,.int .i64 mK,.int .i64 mF,.int .i64 mT,.int .i64 mI,.int .i64 mL,.string mk,.int .i64 mN] 34) (.cells iV 30);have hsz:(((w.alloc (.cells (fO n A) 30)).alloc (.cells #[.int .i64 3,.int .i64 no,.string k,.int .i64 nn,.int .i64 mK,.int .i64 mF,.int .i64 mT,.int .i64 mI,.int .i64 mL,.string mk,.int .i64 mN] 34)).alloc (.cells iV 30)).heap.size=w.heap.size+3:=by simp
 generalize hW0:((w.alloc (.cells (fO n A) 30)).alloc (.cells #[.int .i64 3,.int .i64 no,.string k,.int .i64 nn,.int .i64 mK,.int .i64 mF,.int .i64 mT,.int .i64 mI,.int .i64 mL,.string mk,.int .i64 mN] 34)).alloc (.cells iV 30)=W0 at *;exact Ka69):P:=h
theorem ais.Ka69(h:P:=by
 open atF in exact Fe):P:=h
theorem ait.Ka69(h:P:=by
 exact aql):P:=h
theorem ap1(h:P:=by
 obtain⟨e1,e2,e3,e4⟩:=fJ w (.cells (fO n A) 30) (.cells #[.int .i64 0,.int .i64 no,.string k,.int .i64 nn,.int .i64 mK,.int .i64 mF,.int .i64 mT,.int .i64 mI,.int .i64 mL,.string mk,.int .i64 mN] 34) (.cells iV 30);have hsz:(((w.alloc (.cells (fO n A) 30)).alloc (.cells #[.int .i64 0,.int .i64 no,.string k,.int .i64 nn,.int .i64 mK,.int .i64 mF,.int .i64 mT,.int .i64 mI,.int .i64 mL,.string mk,.int .i64 mN] 34)).alloc (.cells iV 30)).heap.size=w.heap.size+3:=by simp
 generalize hW0:((w.alloc (.cells (fO n A) 30)).alloc (.cells #[.int .i64 0,.int .i64 no,.string k,.int .i64 nn,.int .i64 mK,.int .i64 mF,.int .i64 mT,.int .i64 mI,.int .i64 mL,.string mk,.int .i64 mN] 34)).alloc (.cells iV 30)=W0 at *;exact Ka70):P:=h
theorem aiu.Ka70(h:P:=by
 open atJ in exact Fe):P:=h
theorem aiv.Ka70(h:P:=by
 open atD in exact Fe):P:=h
theorem ap2(h:P:=by
 obtain⟨gp,UG⟩:=hP;obtain⟨gr,hgr⟩:=hR;subst UG;subst hgr;have Le:=hide (fun W (ha:aH W (some ⟨gp,0,none⟩) n.pu)=>QU gp 0 bq n.pu k nn W (Nat.le_trans hz.p (by omega)) qZ hz.pk hkz ha);unfold gX at Le;rw [hu] at Le;have hp:=fF hok;have Ip:=hide (fun W1 (ha:iD W1 (some ⟨gr,0,none⟩) n.reqs)=>xH n (⟨a_k,(some ⟨gp,0,none⟩),dP,dS,(some ⟨gr,0,none⟩),aK,bq,aO,aL,aT⟩:bQ) no W1 (by omega) hp.1 ha);rw [show pU n.reqs no= -1 by unfold pU;rw [hf];rfl] at Ip;have Cu:=hide hp.1;have Mt:=hp.2.1;clear hp hok hf hu hkz hz qZ;unfold gL;have H9:=hide h9;clear h9;have l7:=hide (h.nine hB);clear h;exact Ka71):P:=h
theorem aiw.Ka71(h:P:=by
 open atL in exact apy):P:=h
theorem aix.Ka71(h:P:=by
 open atM in exact apy):P:=h
theorem ap3(h:P:=by
 have HN8:Hid (NQ Z8 B n (⟨a_k,(some ⟨gp,0,none⟩),dP,dS,fA,aK,bq,aO,aL,aT⟩:bQ) G (newC w.heap.size 9 c)):=by rw [hZ];exact HN7.kc (k:=9) (KC.set (aW (Nat.le_refl _))) (by omega)
 have Q9:Hid (Z8.ownsRow bs 84 4 (.slice av RL.length cv) RL.length (GR.flat eG RL)):=by rw [hZ];exact dB Zt (aC.set _) (fun y hy=>by have:y=w.heap.size:=(by simpa using hy);omega)
 have Cw:Hid (Below B w Z8):=by rw [hZ];exact zF.setCell (p:=⟨w.heap.size,3,none⟩) hB _
 have HK8:Hid (Apart c w Z8):=by rw [hZ];exact HK7.keeps zF.size (aC.set _) (fun y hy=>by have:y=w.heap.size:=(by simpa using hy);omega)
 clear hZ HK7 nH lN HN7 Zt zF HS7 c3n f3n hn7;exact Ka72):P:=h
theorem aiy.Ka72(h:P:=by
 obtain⟨a6,c6,W9,hrun,Ev,Qb,Qh⟩:∃a6 c6 W9,(Builtin.append_ #[26,26] 26 #[.slice dP n.out.length aO,.slice (some ⟨Z8.heap.size,0,none⟩) 1 1]).run Tryz.prog (Z8.alloc (.cells #[.int .i64 n.next,.int .i64 dst,.string key,.int .i64 pf] 55))= .ok (.slice a6 (n.out.length+1) c6) W9∧W9.ownsRow B 55 4 (.slice a6 (n.out.length+1) c6) (n.out.length+1) (GR.flat aU (n.out++[⟨n.next,dst,key,pf⟩]))∧(Z8.alloc (.cells #[.int .i64 n.next,.int .i64 dst,.string key,.int .i64 pf] 55)).grownBy W9 (Value.slice dP n.out.length aO).ownBlock∧∀x,(Value.slice a6 (n.out.length+1) c6).ownBlock=some x→(Value.slice dP n.out.length aO).ownBlock=some x∨(Z8.alloc (.cells #[.int .i64 n.next,.int .i64 dst,.string key,.int .i64 pf] 55)).heap.size≤x:=by
  obtain⟨hi,hz0,hz1,hz2⟩:=ah HI;obtain⟨v',w',hr,ho,hg,hw⟩:=dG (P:=Tryz.prog) (Z8.alloc (.cells #[.int .i64 n.next,.int .i64 dst,.string key,.int .i64 pf] 55)) B 26 26 55 i0 (.agg #[.int .i64 0,.int .i64 0,.string ByteArray.empty,.int .i64 0]) 4 40 Tryz.underlying26 hi hz0 hz1 hz2 rfl (by decide) (.slice dP n.out.length aO) n.out.length (GR.flat aU n.out) (GR.own_below HN8.o (ay Z8 _)) ⟨Z8.heap.size,0,none⟩ 1 1 (aU ⟨n.next,dst,key,pf⟩) rfl (World.news_of_block (heap_alloc_new Z8 _)) (qp _) (by unfold maxLen;omega) (by omega) (Nat.le_trans (Nat.le_trans hB Cw.size) (ay Z8 _).size);obtain⟨a6,c6,hv6,_⟩:=GR.own_at (enc:=aU) (sz:=4) (l:=n.out++[⟨n.next,dst,key,pf⟩]) cu (by rw [List.length_append,gN];exact ho);exact abH
 have jK:=HN8.kc (k:=9) (KC.of_below (ay Z8 (.cells #[.int .i64 n.next,.int .i64 dst,.string key,.int .i64 pf] 55))) (by omega);have k9:KC (newC w.heap.size 9 c) 3 (Z8.alloc (.cells #[.int .i64 n.next,.int .i64 dst,.string key,.int .i64 pf] 55)) W9:=KC.grown Qb jK.co;have hn9:∀x,w.heap.size≤x→newC w.heap.size 9 c x≠3:=fun x hx=>by rw [aW hx];omega
 have uJ:=hide (k9.obj (au oC (ay Z8 (.cells #[.int .i64 n.next,.int .i64 dst,.string key,.int .i64 pf] 55))) (hn9 _ (Nat.le_refl _)));have jV:=hide (k9.obj (au vQ (ay Z8 (.cells #[.int .i64 n.next,.int .i64 dst,.string key,.int .i64 pf] 55))) (hn9 _ (by omega)));have LJ:=hide (k9.obj (au Sd (ay Z8 (.cells #[.int .i64 n.next,.int .i64 dst,.string key,.int .i64 pf] 55))) (hn9 _ (by omega)));have Xb:=hide (k9.below (B:=B) (Cw.trans ((ay Z8 (.cells #[.int .i64 n.next,.int .i64 dst,.string key,.int .i64 pf] 55)).mono (Nat.le_trans hB Cw.size))) jK.lo (by omega) (Nat.le_trans (Nat.le_trans hB Cw.size) (ay Z8 _).size));have hZ8:w.heap.size+1 < Z8.heap.size:=aA vQ
 have fP:Hid (∀W',(∃F,aC F W9 W'∧∀y∈F,(y=w.heap.size∨y=w.heap.size+1)∨(y < w.heap.size∧6 < c y))→RM W' ⟨a_k,av,a6,dS,fA,aK,cv,c6,aL,aT⟩ ⟨n.id,n.par,n.kids,n.next+1,RL,n.out++[⟨n.next,dst,key,pf⟩],n.seen,n.old,n.reqs⟩):=fun W' hkF=>by
  obtain⟨F,hk,hF⟩:=hkF
  have kF:KC (newC w.heap.size 9 c) 9 W9 W':=KC.keeps hk (fun y hy=>by
   rcases hF y hy with h1|h1
   ·exact aW (by omega)
   ·rw [dR h1.1];exact H9 y h1.2)
  have hr:=(kF.own (k9.own jK.r jK.cr (by omega)) jK.cr (by omega))
  have hp:=(dB (k9.own (j:=9) (GR.own_below Q9 (ay Z8 _)) (fun x hx=>aW (by have:=qO Q9 hx;omega)) (by omega)) hk (fun y hy=>by
   have:=hF y hy
   omega))
  have ho:W'.ownsRow B 55 4 (.slice a6 (n.out++[(⟨n.next,dst,key,pf⟩:jH)]).length c6) (n.out++[(⟨n.next,dst,key,pf⟩:jH)]).length (GR.flat aU (n.out++[(⟨n.next,dst,key,pf⟩:jH)])):=(by
   rw [List.length_append]
   exact jk Ev (fun x hx=>by
    have hx9:=Gf Ev hx
    refine hk.block x hx9 (fun hm=>?_)
    have hm':=hF x hm
    rcases Qh x hx with h1|h1
    ·exact abC
    ·have:=(ay Z8 (.cells #[.int .i64 n.next,.int .i64 dst,.string key,.int .i64 pf] 55)).size
     omega))
  have Yn:∀g,av.map (fun y=>y.block)=some g→6 < newC w.heap.size 9 c g:=fun g hg=>by
   have h1:=qO hp (kZ hp hg)
   rw [aW (by omega)]
   omega
  have ho9:∀x,(Value.slice a6 (n.out++[(⟨n.next,dst,key,pf⟩:jH)]).length c6).ownBlock=some x→(Value.slice dP n.out.length aO).ownBlock=some x∨(Z8.alloc (.cells #[.int .i64 n.next,.int .i64 dst,.string key,.int .i64 pf] 55)).heap.size≤x:=fun x hx=>by
   rw [List.length_append] at hx
   exact Qh x hx
  have hz9:(Z8.alloc (.cells #[.int .i64 n.next,.int .i64 dst,.string key,.int .i64 pf] 55)).heap.size=Z8.heap.size+1:=by simp
  exact RM.of (n:=⟨n.id,n.par,n.kids,n.next+1,RL,n.out++[⟨n.next,dst,key,pf⟩],n.seen,n.old,n.reqs⟩) (A:=⟨a_k,av,a6,dS,fA,aK,cv,c6,aL,aT⟩) (c:=newC w.heap.size 9 c) (kF.w (k9.w jK.k jK.ck (by omega)) jK.ck (by omega)) jK.ck (kF.seenQ (k9.seenQ jK.sq jK.c4 jK.ci (by omega) (by omega)) jK.c4 jK.ci (by omega) (by omega)) jK.c4 jK.ci jK.ni
   (GR.own_ati aV hp) (fun g hg _=> .inr (Yn g hg)) ho (fun x hx=>by
    rcases ho9 x hx with h1|h1
    ·exact .inl (jK.co x h1)
    ·refine .inr ?_;rw [aW (by omega)]
     omega) hr (fun x hx=> .inl (jK.cr x hx))
   (fun g hg _ h6=>⟨fun e=>by
    rcases ho9 g e with h1|h1
    ·have:=jK.co g h1;omega
    ·have h2:=Gf Q9 (kZ Q9 hg)
     omega,fun e=>by have:=jK.cr g e;omega⟩) (fun x hx h6 e=>by have:=jK.cr x e;omega)
 have HK9:=hide ((HK8.step Cw.size (ay Z8 (.cells #[.int .i64 n.next,.int .i64 dst,.string key,.int .i64 pf] 55))).grown (Nat.le_trans Cw.size (ay Z8 _).size) Qb (fun x hx hlt=>by
  have h1:=jK.co x hx
  rw [dR hlt] at h1
  omega))
 open aib in exact apV):P:=h
theorem aiz.Ka72(h:P:=by
 obtain⟨a6,c6,W9,hrun,Ev,Qb,Qh⟩:∃a6 c6 W9,(Builtin.append_ #[26,26] 26 #[.slice dP n.out.length aO,.slice (some ⟨Z8.heap.size,0,none⟩) 1 1]).run Tryz.prog (Z8.alloc (.cells #[.int .i64 n.next,.int .i64 dst,.string key,.int .i64 most] 55))= .ok (.slice a6 (n.out.length+1) c6) W9∧W9.ownsRow B 55 4 (.slice a6 (n.out.length+1) c6) (n.out.length+1) (GR.flat aU (n.out++[⟨n.next,dst,key,most⟩]))∧(Z8.alloc (.cells #[.int .i64 n.next,.int .i64 dst,.string key,.int .i64 most] 55)).grownBy W9 (Value.slice dP n.out.length aO).ownBlock∧∀x,(Value.slice a6 (n.out.length+1) c6).ownBlock=some x→(Value.slice dP n.out.length aO).ownBlock=some x∨(Z8.alloc (.cells #[.int .i64 n.next,.int .i64 dst,.string key,.int .i64 most] 55)).heap.size≤x:=by
  obtain⟨hi,hz0,hz1,hz2⟩:=ah HI;obtain⟨v',w',hr,ho,hg,hw⟩:=dG (P:=Tryz.prog) (Z8.alloc (.cells #[.int .i64 n.next,.int .i64 dst,.string key,.int .i64 most] 55)) B 26 26 55 i0 (.agg #[.int .i64 0,.int .i64 0,.string ByteArray.empty,.int .i64 0]) 4 40 Tryz.underlying26 hi hz0 hz1 hz2 rfl (by decide) (.slice dP n.out.length aO) n.out.length (GR.flat aU n.out) (GR.own_below HN8.o (ay Z8 _)) ⟨Z8.heap.size,0,none⟩ 1 1 (aU ⟨n.next,dst,key,most⟩) rfl (World.news_of_block (heap_alloc_new Z8 _)) (qp _) (by unfold maxLen;omega) (by omega) (Nat.le_trans (Nat.le_trans hB Cw.size) (ay Z8 _).size);obtain⟨a6,c6,hv6,_⟩:=GR.own_at (enc:=aU) (sz:=4) (l:=n.out++[⟨n.next,dst,key,most⟩]) cu (by rw [List.length_append,gN];exact ho);exact abH
 have jK:=HN8.kc (k:=9) (KC.of_below (ay Z8 (.cells #[.int .i64 n.next,.int .i64 dst,.string key,.int .i64 most] 55))) (by omega);have k9:KC (newC w.heap.size 9 c) 3 (Z8.alloc (.cells #[.int .i64 n.next,.int .i64 dst,.string key,.int .i64 most] 55)) W9:=KC.grown Qb jK.co;have hn9:∀x,w.heap.size≤x→newC w.heap.size 9 c x≠3:=fun x hx=>by rw [aW hx];omega
 have uJ:=hide (k9.obj (au oC (ay Z8 (.cells #[.int .i64 n.next,.int .i64 dst,.string key,.int .i64 most] 55))) (hn9 _ (Nat.le_refl _)));have jV:=hide (k9.obj (au vQ (ay Z8 (.cells #[.int .i64 n.next,.int .i64 dst,.string key,.int .i64 most] 55))) (hn9 _ (by omega)));have LJ:=hide (k9.obj (au Sd (ay Z8 (.cells #[.int .i64 n.next,.int .i64 dst,.string key,.int .i64 most] 55))) (hn9 _ (by omega)));have Xb:=hide (k9.below (B:=B) (Cw.trans ((ay Z8 (.cells #[.int .i64 n.next,.int .i64 dst,.string key,.int .i64 most] 55)).mono (Nat.le_trans hB Cw.size))) jK.lo (by omega) (Nat.le_trans (Nat.le_trans hB Cw.size) (ay Z8 _).size));have hZ8:w.heap.size+1 < Z8.heap.size:=aA vQ
 have fP:Hid (∀W',(∃F,aC F W9 W'∧∀y∈F,(y=w.heap.size∨y=w.heap.size+1)∨(y < w.heap.size∧6 < c y))→RM W' ⟨a_k,av,a6,dS,fA,aK,cv,c6,aL,aT⟩ ⟨n.id,n.par,n.kids,n.next+1,RL,n.out++[⟨n.next,dst,key,most⟩],n.seen,n.old,n.reqs⟩):=fun W' hkF=>by
  obtain⟨F,hk,hF⟩:=hkF
  have kF:KC (newC w.heap.size 9 c) 9 W9 W':=KC.keeps hk (fun y hy=>by
   rcases hF y hy with h1|h1
   ·exact aW (by omega)
   ·rw [dR h1.1];exact H9 y h1.2)
  have hr:=(kF.own (k9.own jK.r jK.cr (by omega)) jK.cr (by omega))
  have hp:=(dB (k9.own (j:=9) (GR.own_below Q9 (ay Z8 _)) (fun x hx=>aW (by have:=qO Q9 hx;omega)) (by omega)) hk (fun y hy=>by
   have:=hF y hy
   omega))
  have ho:W'.ownsRow B 55 4 (.slice a6 (n.out++[(⟨n.next,dst,key,most⟩:jH)]).length c6) (n.out++[(⟨n.next,dst,key,most⟩:jH)]).length (GR.flat aU (n.out++[(⟨n.next,dst,key,most⟩:jH)])):=(by
   rw [List.length_append]
   exact jk Ev (fun x hx=>by
    have hx9:=Gf Ev hx
    refine hk.block x hx9 (fun hm=>?_)
    have hm':=hF x hm
    rcases Qh x hx with h1|h1
    ·exact abC
    ·have:=(ay Z8 (.cells #[.int .i64 n.next,.int .i64 dst,.string key,.int .i64 most] 55)).size
     omega))
  have Yn:∀g,av.map (fun y=>y.block)=some g→6 < newC w.heap.size 9 c g:=fun g hg=>by
   have h1:=qO hp (kZ hp hg)
   rw [aW (by omega)]
   omega
  have ho9:∀x,(Value.slice a6 (n.out++[(⟨n.next,dst,key,most⟩:jH)]).length c6).ownBlock=some x→(Value.slice dP n.out.length aO).ownBlock=some x∨(Z8.alloc (.cells #[.int .i64 n.next,.int .i64 dst,.string key,.int .i64 most] 55)).heap.size≤x:=fun x hx=>by
   rw [List.length_append] at hx
   exact Qh x hx
  have hz9:(Z8.alloc (.cells #[.int .i64 n.next,.int .i64 dst,.string key,.int .i64 most] 55)).heap.size=Z8.heap.size+1:=by simp
  exact RM.of (n:=⟨n.id,n.par,n.kids,n.next+1,RL,n.out++[⟨n.next,dst,key,most⟩],n.seen,n.old,n.reqs⟩) (A:=⟨a_k,av,a6,dS,fA,aK,cv,c6,aL,aT⟩) (c:=newC w.heap.size 9 c) (kF.w (k9.w jK.k jK.ck (by omega)) jK.ck (by omega)) jK.ck (kF.seenQ (k9.seenQ jK.sq jK.c4 jK.ci (by omega) (by omega)) jK.c4 jK.ci (by omega) (by omega)) jK.c4 jK.ci jK.ni
   (GR.own_ati aV hp) (fun g hg _=> .inr (Yn g hg)) ho (fun x hx=>by
    rcases ho9 x hx with h1|h1
    ·exact .inl (jK.co x h1)
    ·refine .inr ?_;rw [aW (by omega)]
     omega) hr (fun x hx=> .inl (jK.cr x hx))
   (fun g hg _ h6=>⟨fun e=>by
    rcases ho9 g e with h1|h1
    ·have:=jK.co g h1;omega
    ·have h2:=Gf Q9 (kZ Q9 hg)
     omega,fun e=>by have:=jK.cr g e;omega⟩) (fun x hx h6 e=>by have:=jK.cr x e;omega)
 have HK9:=hide ((HK8.step Cw.size (ay Z8 (.cells #[.int .i64 n.next,.int .i64 dst,.string key,.int .i64 most] 55))).grown (Nat.le_trans Cw.size (ay Z8 _).size) Qb (fun x hx hlt=>by
  have h1:=jK.co x hx
  rw [dR hlt] at h1
  omega))
 open aic in exact apV):P:=h
theorem ap4(h:P:=by
 go_enter Tryz.func145,Tryz.ntmps145
 go_upto_region 1 with fail;refine Fo.wp_at (fun V hV=>?_);have hbV:Below w.heap.size w V:=by rw [hV];exact dA w _
 have hblk:V.heap[w.heap.size]?=some (.cells #[.int .i64 dm,.int .i64 df,.int .i64 ds] 121 (0,0)):=by rw [hV];exact heap_alloc_new w _
 have hlt:=Fo.lt_of_blk hblk;have c0:V.cell? ⟨w.heap.size,0,none⟩=some (.int .i64 dm):=by rw [cell_of_row V _ _ _ _ (0,0) hblk];rfl
 have c1:V.cell? ⟨w.heap.size,1,none⟩=some (.int .i64 df):=by rw [cell_of_row V _ _ _ _ (0,0) hblk];rfl
 have c2:V.cell? ⟨w.heap.size,2,none⟩=some (.int .i64 ds):=by rw [cell_of_row V _ _ _ _ (0,0) hblk];rfl
 have D7:=hide hbV;clear hblk hV hbV;exact Ka73):P:=h
theorem aiA.Ka73(h:P:=by
 go_cut [9,10] (fun p9 mZ wx=>∃pb:Nat,p9= .pointer (some ⟨pb,0,none⟩)∧mZ= .nilIface∧Below w.heap.size w wx∧wx.heap[pb]?=some (.cells #[.string pk,.int .i64 qm,.int .i64 qf,.int .i64 qs] 84 (0,0))∧w.heap.size≤pb)
 case first=>
  have hnV:w.heap.size≠V.heap.size:=by omega
  have hmV:V.heap.size≠w.heap.size:=by omega
  go_region_held (fun w'=>w'.cell? ⟨w.heap.size,0,none⟩=some (.int .i64 dm)∧w'.cell? ⟨w.heap.size,1,none⟩=some (.int .i64 df)∧w'.cell? ⟨w.heap.size,2,none⟩=some (.int .i64 ds)) (go_keep)
   (first
    |((go_at_call 158);(refine(H6 _ (by exact D7.trans (by exact⟨rfl,rfl,rfl,by simp,fun k hk=>by first|rfl|exact Below.heap_alloc _ _ _ (by omega)⟩))).mono ?_);(rintro e w4 ⟨rfl,hb4⟩);(have hs4:=hb4.size);(simp at hs4);(have kC:=hide (D7.trans (Below.trans (b:=_) (by exact⟨rfl,rfl,rfl,by simp,fun k hk=>by first|rfl|exact Below.heap_alloc _ _ _ (by omega)⟩) (hb4.mono (by first|omega|(simp<;>omega))))));(obtain⟨hc4,hf4⟩:=I8 hb4);(have d0:w4.cell? ⟨w.heap.size,0,none⟩=some (.int .i64 dm):=by rw [hc4 _ _ (by first|omega|(simp<;>omega))];first|exact c0|exact(World.cell?_alloc_lt _ _ _ hlt).trans c0);(have d1:w4.cell? ⟨w.heap.size,1,none⟩=some (.int .i64 df):=by rw [hc4 _ _ (by first|omega|(simp<;>omega))];first|exact c1|exact(World.cell?_alloc_lt _ _ _ hlt).trans c1);(have d2:w4.cell? ⟨w.heap.size,2,none⟩=some (.int .i64 ds):=by rw [hc4 _ _ (by first|omega|(simp<;>omega))];first|exact c2|exact(World.cell?_alloc_lt _ _ _ hlt).trans c2);(first|(guard_hyp hs4:V.heap.size+1≤w4.heap.size;obtain⟨⟨z0,z1,z2,z3⟩,x0,x1,x2,x3⟩:=eZ (Fo.one_block (show Below (V.alloc (.cells #[.string ⟨#[]⟩,.int .i64 0,.int .i64 0,.int .i64 0] 84)).heap.size (V.alloc (.cells #[.string ⟨#[]⟩,.int .i64 0,.int .i64 0,.int .i64 0] 84)) w4 from⟨hb4.os,hb4.tape,hb4.output,hb4.size,hb4.block⟩)).1;have zR:V.heap.size < w4.heap.size:=World.block_lt_of_cell? _ _ z0;have HZ:=hide (Fo.one_block (show Below (V.alloc (.cells #[.string ⟨#[]⟩,.int .i64 0,.int .i64 0,.int .i64 0] 84)).heap.size (V.alloc (.cells #[.string ⟨#[]⟩,.int .i64 0,.int .i64 0,.int .i64 0] 84)) w4 from⟨hb4.os,hb4.tape,hb4.output,hb4.size,hb4.block⟩)).1)|skip);(have Mv:w.heap.size < w4.heap.size:=by omega);(have hn4:w.heap.size≠w4.heap.size:=by omega);(have hm4:w4.heap.size≠w.heap.size:=by omega);(clear hb4 hc4 hf4))
    |((go_at_call 159);(refine(HSH _ (by exact kC.trans (by exact⟨rfl,rfl,rfl,by simp,fun k hk=>by first|rfl|exact Below.heap_alloc _ _ _ (by omega)⟩))).mono ?_);(rintro e w5 ⟨rfl,hb5⟩);(have hs5:=hb5.size);(try simp at hs5);(have jd:=hide (kC.trans (Below.trans (b:=_) (by exact⟨rfl,rfl,rfl,by simp,fun k hk=>by first|rfl|exact Below.heap_alloc _ _ _ (by omega)⟩) (hb5.mono (by first|omega|(simp<;>omega))))));(obtain⟨Aq,Qa⟩:=I8 hb5);(have e0:w5.cell? ⟨w.heap.size,0,none⟩=some (.int .i64 dm):=by rw [Aq _ _ (by first|omega|(simp<;>omega))];first|exact d0|exact(World.cell?_alloc_lt _ _ _ Mv).trans d0);(have e1:w5.cell? ⟨w.heap.size,1,none⟩=some (.int .i64 df):=by rw [Aq _ _ (by first|omega|(simp<;>omega))];first|exact d1|exact(World.cell?_alloc_lt _ _ _ Mv).trans d1);(have e2:w5.cell? ⟨w.heap.size,2,none⟩=some (.int .i64 ds):=by rw [Aq _ _ (by first|omega|(simp<;>omega))];first|exact d2|exact(World.cell?_alloc_lt _ _ _ Mv).trans d2);(first|(guard_hyp zR:V.heap.size < w4.heap.size;have HY:=hide ((hb5.block _ zR).trans HZ);have y0:=(Aq _ 0 zR).trans z0;have y1:=(Aq _ 1 zR).trans z1;have y2:=(Aq _ 2 zR).trans z2;have y3:=(Aq _ 3 zR).trans z3;have v0:=(Qa _ 0 zR).trans x0;have v1:=(Qa _ 1 zR).trans x1;have v2:=(Qa _ 2 zR).trans x2;have v3:=(Qa _ 3 zR).trans x3)|(guard_hyp hs5:w4.heap.size+1≤w5.heap.size;have HY:=hide (Fo.one_block hb5).1;obtain⟨⟨y0,y1,y2,y3⟩,v0,v1,v2,v3⟩:=eZ (Fo.one_block hb5).1)|skip);(have au1:w.heap.size < w5.heap.size:=by omega);(have hn5:w.heap.size≠w5.heap.size:=by omega);(have hm5:w5.heap.size≠w.heap.size:=by omega);(clear hb5 Aq Qa)))
  all_goals
   go_wp2_with fail
   go_meet
   case rel=>
    first
     |exact⟨_,rfl,rfl,Fo.four_below jd (by omega),Fo.four_set HY,by omega⟩
     |exact⟨_,rfl,rfl,jd.alloc jd.size _,heap_alloc_new w5 _,by omega⟩
 case rest=>
  obtain⟨pb,rfl,rfl,hbx,hpb,hge⟩:=hcut;obtain⟨⟨p0,p1,p2,p3⟩,_⟩:=eZ hpb;have aeP:=hide (Xa _ hbx);have kR:=hide hbx;have Lv:=hide hpb;have au3:=Fo.lt_of_blk hpb
  have HNE:=hide (show pb≠mp∧v.ownBlock≠some pb from⟨fun e=>by
   have:=(Ra _ hbx).blk
   rw [←e,hpb] at this
   injection this with this
   injection this with h1 h2 h3
   exact absurd h2 (by decide),own_ne (Ra _ hbx).row hpb (by decide)⟩)
  clear hbx hpb Xa H6 HSH D7 c0 c1 c2 hlt;go_wp2_with fail;refine aeP.mono ?_;rintro e w6 ⟨hb6,arF,hcase⟩;have uj:=hide (Below.trans (kR.mono hB) hb6);have ad5:=(arF pb au3 HNE.1 HNE.2).trans Lv;clear arF hb6 p0 p1 p2 p3 aeP;rcases hcase with⟨hf,rfl,yE⟩|⟨hf,h20,rfl⟩|⟨hf,h20,rfl,v',yE⟩
  ·rw [ah qg hf] at yE;open ajZ in exact ZH
  ·have HF:=hide hf;have H20:=hide h20;clear hf h20 ad5;go_wp2_with fail;go_ret;exact⟨uj,.inl ⟨HF,H20,rfl⟩⟩
  ·rw [ah HKN hf] at yE;open ajY in exact ZH):P:=h
theorem aiB.Ka73(h:P:=by
 have hnV:w.heap.size≠V.heap.size:=by omega
 have hmV:V.heap.size≠w.heap.size:=by omega
 go_region_held (fun w'=>w'.cell? ⟨w.heap.size,0,none⟩=some (.int .i64 dm)∧w'.cell? ⟨w.heap.size,1,none⟩=some (.int .i64 df)∧w'.cell? ⟨w.heap.size,2,none⟩=some (.int .i64 ds)) (go_keep)
  (first
   |((go_at_call 158);(refine(H6 _ (by exact D7.trans (by exact⟨rfl,rfl,rfl,by simp,fun k hk=>by first|rfl|exact Below.heap_alloc _ _ _ (by omega)⟩))).mono ?_);(rintro e w4 ⟨rfl,hb4⟩);(have hs4:=hb4.size);(simp at hs4);(have kC:=hide (D7.trans (Below.trans (b:=_) (by exact⟨rfl,rfl,rfl,by simp,fun k hk=>by first|rfl|exact Below.heap_alloc _ _ _ (by omega)⟩) (hb4.mono (by first|omega|(simp<;>omega))))));(obtain⟨hc4,hf4⟩:=I8 hb4);(have d0:w4.cell? ⟨w.heap.size,0,none⟩=some (.int .i64 dm):=by rw [hc4 _ _ (by first|omega|(simp<;>omega))];first|exact c0|exact(World.cell?_alloc_lt _ _ _ hlt).trans c0);(have d1:w4.cell? ⟨w.heap.size,1,none⟩=some (.int .i64 df):=by rw [hc4 _ _ (by first|omega|(simp<;>omega))];first|exact c1|exact(World.cell?_alloc_lt _ _ _ hlt).trans c1);(have d2:w4.cell? ⟨w.heap.size,2,none⟩=some (.int .i64 ds):=by rw [hc4 _ _ (by first|omega|(simp<;>omega))];first|exact c2|exact(World.cell?_alloc_lt _ _ _ hlt).trans c2);(first|(guard_hyp hs4:V.heap.size+1≤w4.heap.size;obtain⟨⟨z0,z1,z2,z3⟩,x0,x1,x2,x3⟩:=eZ (Fo.one_block (show Below (V.alloc (.cells #[.string ⟨#[]⟩,.int .i64 0,.int .i64 0,.int .i64 0] 84)).heap.size (V.alloc (.cells #[.string ⟨#[]⟩,.int .i64 0,.int .i64 0,.int .i64 0] 84)) w4 from⟨hb4.os,hb4.tape,hb4.output,hb4.size,hb4.block⟩)).1;have zR:V.heap.size < w4.heap.size:=World.block_lt_of_cell? _ _ z0)|skip);(have Mv:w.heap.size < w4.heap.size:=by omega);(have hn4:w.heap.size≠w4.heap.size:=by omega);(have hm4:w4.heap.size≠w.heap.size:=by omega);(clear hb4 hc4 hf4))
   |((go_at_call 159);(refine(HSH _ (by exact kC.trans (by exact⟨rfl,rfl,rfl,by simp,fun k hk=>by first|rfl|exact Below.heap_alloc _ _ _ (by omega)⟩))).mono ?_);(rintro e w5 ⟨ix,hix,rfl,hb5⟩);(have hs5:=hb5.size);(try simp at hs5);(have jd:=hide (kC.trans (Below.trans (b:=_) (by exact⟨rfl,rfl,rfl,by simp,fun k hk=>by first|rfl|exact Below.heap_alloc _ _ _ (by omega)⟩) (hb5.mono (by first|omega|(simp<;>omega))))));(obtain⟨Aq,Qa⟩:=I8 hb5);(have e0:w5.cell? ⟨w.heap.size,0,none⟩=some (.int .i64 dm):=by rw [Aq _ _ (by first|omega|(simp<;>omega))];first|exact d0|exact(World.cell?_alloc_lt _ _ _ Mv).trans d0);(have e1:w5.cell? ⟨w.heap.size,1,none⟩=some (.int .i64 df):=by rw [Aq _ _ (by first|omega|(simp<;>omega))];first|exact d1|exact(World.cell?_alloc_lt _ _ _ Mv).trans d1);(have e2:w5.cell? ⟨w.heap.size,2,none⟩=some (.int .i64 ds):=by rw [Aq _ _ (by first|omega|(simp<;>omega))];first|exact d2|exact(World.cell?_alloc_lt _ _ _ Mv).trans d2);(first|(guard_hyp zR:V.heap.size < w4.heap.size;have y0:=(Aq _ 0 zR).trans z0;have y1:=(Aq _ 1 zR).trans z1;have y2:=(Aq _ 2 zR).trans z2;have y3:=(Aq _ 3 zR).trans z3;have v0:=(Qa _ 0 zR).trans x0;have v1:=(Qa _ 1 zR).trans x1;have v2:=(Qa _ 2 zR).trans x2;have v3:=(Qa _ 3 zR).trans x3)|(guard_hyp hs5:w4.heap.size+1≤w5.heap.size;obtain⟨⟨y0,y1,y2,y3⟩,v0,v1,v2,v3⟩:=eZ (Fo.one_block hb5).1)|skip);(have au1:w.heap.size < w5.heap.size:=by omega);(have hn5:w.heap.size≠w5.heap.size:=by omega);(have hm5:w5.heap.size≠w.heap.size:=by omega);(clear hb5 Aq Qa)))
 all_goals
  go_wp2_with fail
  go_ret
  refine⟨ix,hix,rfl,?_⟩
  first|exact jd.alloc jd.size _|exact Fo.four_below jd (by omega)):P:=h
theorem PG(h:P:=by
 open anI in exact IV):P:=h
theorem aiC.Ka74(h:P:=by
 clear HO HM p0 p1 p2 p3 p4 p5 p6;have f1:=VB;open ajb in exact adi):P:=h
theorem aiD.Ka74(h:P:=by
 clear HO HM p0 p1 p2 p3 p4 p5 p6;have f1:=OU;open aja in exact adi):P:=h
theorem aiE.Ka74(h:P:=by
 clear HO p0 p1 p2 p3 p4 p5 p6;have f1:=OU;open agh in exact LW):P:=h
theorem aiF.Ka74(h:P:=by
 clear HO p0 p1 p2 p3 p4 p5 p6;have f1:=VD;open agf in exact LW):P:=h
theorem aiG.Ka74(h:P:=by
 clear HO HM p0 p1 p2 p3 p4 p5 p6;have f1:=VD;open ai9 in exact adi):P:=h
theorem aiH.Ka74(h:P:=by
 clear HO p0 p1 p2 p3 p4 p5 p6;have f1:=VB;open agd in exact LW):P:=h
theorem ap5(h:P:=by
 have Q8:=hide (au rG hbw);have HR3:=hide (au HR1 hbw);have Ah:=hide (au HO1 hbw);have HB3:=hide (HB1.trans (hbw.mono HB1.size));clear hW3 hbw c0 c1 c2 c3 c4 c5 c6 c7 c8 d0 d1 d2 d3;obtain⟨c0,c1,c2,c3,c4,c5,c6,c7,c8⟩:=nine Q8;obtain⟨d0,d1,d2,d3⟩:=fC HR3;obtain⟨r0,r1,r2,r3,r4,r5,r6⟩:=iZ Ah;have f0:=aj Ah 0;have f1:=aj Ah 1;have f2:=aj Ah 2;have f3:=aj Ah 3;have f4:=aj Ah 4;have f5:=aj Ah 5;have f6:=aj Ah 6;go_wp2_with fail;refine aR (fun W' hW'=>?_);exact Ka75):P:=h
theorem aiI.Ka75(h:P:=by
 have hR:=vF (b0:= .int .i64 1) (b1:= .int .i64 id) (b2:= .int .i64 st) (b3:= .int .i64 LO) (b4:= .int .i64 LO) (b5:= .string sx) (b6:= .int .i64 sn) Ah;have hK:=qQ (w:=W3) (g:=w.heap.size+1+1) (b0:= .int .i64 1) (b1:= .int .i64 id) (b2:= .int .i64 st) (b3:= .int .i64 LO) (b4:= .int .i64 LO) (b5:= .string sx) (b6:= .int .i64 sn);rw [←hW'] at hR hK;obtain⟨x0,x1,x2,x3,x4,x5,x6⟩:=iZ hR;refine bodyPost_ret (v:= .agg #[.int .i64 1,.int .i64 id,.int .i64 st,.int .i64 LO,.int .i64 LO,.string sx,.int .i64 sn]) (by simp[results,Tryz.results84,go_sem,x0,x1,x2,x3,x4,x5,x6]) rfl ⟨rfl,HB3.trans (hK.below (fun x hx=>by have:x=w.heap.size+1+1:=(by simpa using hx);omega) HB3.size)⟩):P:=h
theorem aiJ.Ka75(h:P:=by
 have hR:=vF (b0:= .int .i64 1) (b1:= .int .i64 id) (b2:= .int .i64 st) (b3:= .int .i64 si) (b4:= .int .i64 LO) (b5:= .string sx) (b6:= .int .i64 sn) Ah;have hK:=qQ (w:=W3) (g:=w.heap.size+1+1) (b0:= .int .i64 1) (b1:= .int .i64 id) (b2:= .int .i64 st) (b3:= .int .i64 si) (b4:= .int .i64 LO) (b5:= .string sx) (b6:= .int .i64 sn);rw [←hW'] at hR hK;obtain⟨x0,x1,x2,x3,x4,x5,x6⟩:=iZ hR;refine bodyPost_ret (v:= .agg #[.int .i64 1,.int .i64 id,.int .i64 st,.int .i64 si,.int .i64 LO,.string sx,.int .i64 sn]) (by simp[results,Tryz.results84,go_sem,x0,x1,x2,x3,x4,x5,x6]) rfl ⟨rfl,HB3.trans (hK.below (fun x hx=>by have:x=w.heap.size+1+1:=(by simpa using hx);omega) HB3.size)⟩):P:=h
theorem ap6(h:P:=by
 rw [←hW] at e1 e2 e3 e4;have HN:=hide e1;have HM:=hide e2;have HR:=hide e3;have HB0:=hide e4;have Ee:=hide (l7.kc (k:=9) (KC.of_below e4) (by omega));clear hW e1 e2 e3 e4 l7;obtain⟨m0,m1,m2,m3,m4,m5,m6⟩:=iZ HM;have hml:=aA HM;have hnl:=aA HN;go_wp2_with fail;refine(RJ W0).mono ?_;rintro e W1 ⟨rfl,hb1⟩;have jG:=hide (au HN hb1);have Ih:=hide (au HM hb1);have nI:=hide (au HR hb1);have HB1:=hide (HB0.trans (hb1.mono HB0.size));have Ag:=hide (Ee.kc (k:=9) (KC.of_below hb1) (by omega));clear hb1 HM HR HN HB0 Ee;clear m0 m1 m2 m3 m4 m5 m6 hml hnl RJ;obtain⟨m0,m1,m2,m3,m4,m5,m6⟩:=iZ Ih;exact Ka76):P:=h
theorem aiK.Ka76(h:P:=by
 have hml:=aA Ih;have oI:=hide (au nI (ay W1 (.cells #[] 32)));have EZ:=hide (Ag.kc (k:=9) (KC.of_below (ay W1 (.cells #[] 32))) (by omega));have rP:=hide (HB1.trans ((ay W1 (.cells #[] 32)).mono HB1.size));obtain⟨c0,c1,c2,c3,c4,c5,c6,c7,c8⟩:=nine jG;open ag5 in exact PD):P:=h
theorem aiL.Ka76(h:P:=by
 obtain⟨c0,c1,c2,c3,c4,c5,c6,c7,c8⟩:=nine jG;have hml:=aA Ih;have hnl:=aA jG;go_wp2_with fail;refine(Hq W1 Ag.at.k).mono ?_;rintro e W2 ⟨rfl,hb2⟩;have jg:=hide (au jG hb2);have vN:=hide (au Ih hb2);have iW:=hide (au nI hb2);have HB2:=hide (HB1.trans (hb2.mono HB1.size));have RZ:=hide (Ag.kc (k:=9) (KC.of_below hb2) (by omega));clear hb2 Ih nI jG HB1 Ag;clear m0 m1 m2 m3 m4 m5 m6 c0 c1 c2 c3 c4 c5 c6 c7 c8 hml hnl Hq;obtain⟨m0,m1,m2,m3,m4,m5,m6⟩:=iZ vN;exact Ka5):P:=h
theorem XP(h:P:=by
 refine tq 3 (by kernel_rfl) ?_;show jc _ _ _ _ _ 5 (Array.replicate 5 false) _ _
 refine tk [0] ?_;(refine tkF (fun K hK=>?_);go_simp;refine hK _ ?_;clear hK K)
 refine kK ?_;clear y0 y1 y2 y3 y4 y5 y6 y7 y8;exact Ka77):P:=h
theorem aiM.Ka77(h:P:=by
 refine iN 1 rfl rfl (by kernel_rfl) (by rfl) (by rfl) (by decide) (fun x hx=>?_) (fun x hx=>?_)
 ·go_simp;refine⟨Below.refl _ _,?_⟩;refine iN 2 rfl rfl (by kernel_rfl) (by rfl) (by rfl) (by decide) (fun x2 hx2=>?_) (fun x2 hx2=>?_)
  ·have Lj:=(fC (au E9 (Ge.trans hx hx2))).2.2.2;open als in exact Ou
  ·have hg3:=Ge.trans hx hx2;have Lj:=(fC (au E9 hg3)).2.2.2;have tu:=hide (au jV hg3);open as0 in exact Rh
 ·have Lj:=(fC (au E9 hx)).2.2.2;have tu:=hide (au jV hx);open asZ in exact Rh):P:=h
theorem aiN.Ka77(h:P:=by
 refine iN 1 rfl rfl (by kernel_rfl) (by rfl) (by rfl) (by decide) (fun x hx=>?_) (fun x hx=>?_)
 ·go_simp;refine⟨Below.refl _ _,?_⟩;refine iN 2 rfl rfl (by kernel_rfl) (by rfl) (by rfl) (by decide) (fun x2 hx2=>?_) (fun x2 hx2=>?_)
  ·have Lj:=(fC (au zN (Ge.trans hx hx2))).2.2.2;open alr in exact Ou
  ·have hg3:=Ge.trans hx hx2;have Lj:=(fC (au zN hg3)).2.2.2;have tu:=hide (au iX hg3);open asX in exact Rh
 ·have Lj:=(fC (au zN hx)).2.2.2;have tu:=hide (au iX hx);open asW in exact Rh):P:=h
theorem aiO.Ka77(h:P:=by
 refine iN 1 rfl rfl (by kernel_rfl) (by rfl) (by rfl) (by decide) (fun x hx=>?_) (fun x hx=>?_)
 ·go_simp;refine⟨Below.refl _ _,?_⟩;refine iN 2 rfl rfl (by kernel_rfl) (by rfl) (by rfl) (by decide) (fun x2 hx2=>?_) (fun x2 hx2=>?_)
  ·have Lj:=(fC (au E9 (Ge.trans hx hx2))).2.2.2;open alq in exact Ou
  ·have hg3:=Ge.trans hx hx2;have Lj:=(fC (au E9 hg3)).2.2.2;have tu:=hide (au jV hg3);open as7 in exact Rh
 ·have Lj:=(fC (au E9 hx)).2.2.2;have tu:=hide (au jV hx);open as6 in exact Rh):P:=h
theorem aiP.Ka77(h:P:=by
 refine iN 1 rfl rfl (by kernel_rfl) (by rfl) (by rfl) (by decide) (fun x hx=>?_) (fun x hx=>?_)
 ·go_simp;refine⟨Below.refl _ _,?_⟩;refine iN 2 rfl rfl (by kernel_rfl) (by rfl) (by rfl) (by decide) (fun x2 hx2=>?_) (fun x2 hx2=>?_)
  ·have Lj:=(fC (au zN (Ge.trans hx hx2))).2.2.2;open alp in exact Ou
  ·have hg3:=Ge.trans hx hx2;have Lj:=(fC (au zN hg3)).2.2.2;have tu:=hide (au iX hg3);open as4 in exact Rh
 ·have Lj:=(fC (au zN hx)).2.2.2;have tu:=hide (au iX hx);open as3 in exact Rh):P:=h
theorem ap7(h:P:=by
 cases h1:NN fr
 case' false=>
  have cN:=ah Hq fr false W1 HKI h1
  have HV:=hide (show bb=true by rw [←ah eP];simp[h1])
  clear eP
  refine wp_region_quiet_below (by kernel_rfl) (by kernel_rfl) ?_
  repeat (first|go_big_quiet_step ((first|(go_at_call 24;exact cN _ _)|(go_at_call 21;exact cS _ _)))|quiet_step ((first|(go_at_call 24;exact cN _ _)|(go_at_call 21;exact cS _ _))))
  refine wpQuiet_nil ?_
  intro _ hw'
  obtain⟨⟨dq,osq⟩,hw''⟩:=hw'
  subst hw''
  go_wp2_with fail
  go_meet
  case rel=>exact uN
 have cN:=ah Hq fr true W1 HKI h1;exact Ka78):P:=h
theorem aiQ.Ka78(h:P:=by
 by_cases h2:y < fr
 case' neg=>
  have hy:decide (fr≤y)=true:=decide_eq_true (by omega)
  have HV:=hide (show bb=true by rw [←ah eP];simp[h2])
  clear eP
  refine wp_region_quiet_below (by kernel_rfl) (by kernel_rfl) ?_
  repeat (first|go_big_quiet_step ((first|(go_at_call 24;exact cN _ _)|(go_at_call 21;exact cS _ _)))|quiet_step ((first|(go_at_call 24;exact cN _ _)|(go_at_call 21;exact cS _ _))))
  refine wpQuiet_nil ?_
  intro _ hw'
  obtain⟨⟨dq,osq⟩,hw''⟩:=hw'
  subst hw''
  go_wp2_with fail
  go_meet
  case rel=>exact uN
 have hy:decide (fr≤y)=false:=decide_eq_false (by omega);open agm in exact apI):P:=h
theorem aiR.Ka78(h:P:=by
 open agn in exact apI):P:=h
theorem ap8(h:P:=by
 go_simp;refine (ar1 c _ (ah En).cur).mono ?_;rintro e w4 ⟨⟨K, no, ky, nn, ⟨mK, mF, mT, mI, mL, mk, mN⟩⟩, rfl, hky, hmk, hc4, hk4⟩;dsimp only at hky hmk;have uM := hide ((ah En).draw hc4 hk4);clear hc4 hk4;obtain ⟨d0, d1, d2, d3, d4, d5, d6, d7, d8⟩ := nine (ah uM).own;have HDO := hide (Nk n A K no ky nn mK mF mT mI mL mk mN w4 (ah uM).sz (by omega) (by omega) (ah uM).at);have HDZ := hide (aru (o := ⟨K, no, ky, nn, ⟨mK, mF, mT, mI, mL, mk, mN⟩⟩) (ah uM).sz);generalize lK n ⟨K, no, ky, nn, ⟨mK, mF, mT, mI, mL, mk, mN⟩⟩ = R at *;exact Ka79):P:=h
theorem aiS.Ka79(h:P:=by
 go_simp;refine aF 0 rfl (by kernel_rfl) (by rfl) ?_;exact aqr):P:=h
theorem aiT.Ka79(h:P:=by
 exact aqr):P:=h
theorem ap9(h:P:=by
 rw [←hW] at e1 e2 e3 e4;have Xr:=hide e1;have Xk:=hide e2;have afk:=hide e3;have HB0:=hide e4;have Xo:=hide (l7.kc (k:=9) (KC.of_below e4) (by omega));clear hW e1 e2 e3 e4;obtain⟨bi,ci,eA,hgs0,⟨t0,t1,t2⟩,_,hWi⟩:=fq.three Xo.s i hi;rw [hs0] at t0 t1 t2 hWi;rw [hfi] at t0;have adU:G.s < w.heap.size:=VL HGS (by omega);have Sq:=hide hWi;have HT:=hide (And.intro t0 (And.intro t1 t2));clear hWi t0 t1 t2;dsimp only at eA;subst eA;obtain⟨c0,c1,c2,c3,c4,c5,c6,c7,c8⟩:=nine Xr;obtain⟨m0,m1,m2,m3,m4,m5,m6⟩:=iZ Xk;have hnl:=aA Xr;have hml:=aA Xk;go_upto_block 0 with fail;exact Ka80):P:=h
theorem aiU.Ka80(h:P:=by
 go_cut [7] from 15 (fun j wx=>j= .int .i64 (i:Nat)∧Ge W0 wx)
 case first=>
  exact adt
 case rest=>
  open afH in exact ac9):P:=h
theorem aiV.Ka80(h:P:=by
 exact Ka38):P:=h
theorem aqa(h:P:=by
 open amz in exact SV):P:=h
theorem aiW.Ka81(h:P:=by
 refine jZ 5 7 rfl rfl (by kernel_rfl) (by rfl) (by rfl) (by decide) (by decide) (fun x2 hx2=>?_) (fun x2 hx2=>?_)
 ·open af8 in exact apF
 ·go_simp;open ani in exact Tf):P:=h
theorem aiX.Ka81(h:P:=by
 refine jZ 5 7 rfl rfl (by kernel_rfl) (by rfl) (by rfl) (by decide) (by decide) (fun x2 hx2=>?_) (fun x2 hx2=>?_)
 ·open af7 in exact apF
 ·go_simp;open anh in exact Tf):P:=h
theorem Fj(h:P:=by
 have hke:k=l.length:=by omega
 subst hke;have hnlt:decide ((l.length:Int) < (l.length:Int))=false:=by simp
 exact Ka82):P:=h
theorem aiY.Ka82(h:P:=by
 have HX:=hide (show aG l key=⟨key,0,0,0⟩ by
  have h:=ah HN
  rw [List.take_length] at h
  unfold aG
  rw [h]
  rfl)
 go_wp2_with fail;refine bodyPost_ret (v:= .agg #[.string key,.int .i64 0,.int .i64 0,.int .i64 0]) (by simp[results,Tryz.results89,go_sem]) rfl ⟨by rw [ah HX],?_⟩;exact(Below.refl _ _).alloc (Nat.le_refl _) _):P:=h
theorem aiZ.Ka82(h:P:=by
 have h:=ah HN;rw [List.take_length] at h;have HF:=hide h;clear h;go_wp2_with fail;go_ret;exact⟨aD HF.symm,rfl⟩):P:=h
theorem ai0.Ka82(h:P:=by
 have HX:=hide (show aG l key=⟨key,0,0,0⟩ by
  have h:=ah HN
  rw [List.take_length] at h
  unfold aG
  rw [h]
  rfl)
 go_wp2_with fail;refine(jr _).mono ?_;rintro e w1 ⟨rfl,hb1⟩;have hB:w1.heap[w.heap.size]?=some (.cells #[.string ⟨#[]⟩,.int .i64 0,.int .i64 0,.int .i64 0] 84 (0,0)):=by rw [hb1.block _ Yl];exact ET
 have HB:=hide hB;have HB2:=hide (fG.trans (hb1.mono fG.size));obtain⟨⟨r0,r1,r2,r3⟩,s0,s1,s2,s3⟩:=eZ hB;clear hB hb1;go_wp2_with fail;clear r0 r1 r2 r3;refine Fo.bodyPost_at (fun W' hW'=>?_);obtain⟨⟨r0,r1,r2,r3⟩,_⟩:=eZ (show W'.heap[w.heap.size]?=some (.cells #[.string key,.int .i64 0,.int .i64 0,.int .i64 0] 84 (0,0)) by rw [hW'];exact Fo.four_set HB);have hbb:Below w.heap.size w W':=by rw [hW'];exact Fo.four_below HB2 (Nat.le_refl _)
 refine bodyPost_ret (v:= .agg #[.string key,.int .i64 0,.int .i64 0,.int .i64 0]) (by simp[results,Tryz.results108,go_sem,r0,r1,r2,r3]) rfl ⟨by rw [ah HX],hbb⟩):P:=h
theorem ai1.Ka82(h:P:=by
 go_wp2_with fail;go_ret;exact⟨a',c',g,hg,rfl,HB,fG⟩):P:=h
theorem ai2.Ka82(h:P:=by
 have h:=ah HN;rw [List.take_length] at h;have HF:=hide h;clear h;go_wp2_with fail;go_ret;exact⟨⟨-1,rfl,by rw [ah HF];rfl⟩,rfl⟩):P:=h
theorem ai3.Ka82(h:P:=by
 go_wp2_with fail;go_ret2
 have h:=ah HP;rw [List.take_length] at h;exact⟨_,_,_,rfl,h,fG⟩):P:=h
theorem ai4.Ka82(h:P:=by
 go_wp2_with fail;go_ret;have h:=ah HB;rw [List.take_length,Nat.sub_self,List.replicate_zero,List.append_nil] at h;exact⟨rfl,h,fG⟩):P:=h
theorem ai5.Ka82(h:P:=by
 have xR:=hide (place_at l pk l.length (Nat.le_refl _) kQ (fun h=>absurd h (Nat.lt_irrefl _))).1;go_wp2_with fail;go_quiet (fail);go_wp2_with fail;go_meet
 case rel=>exact⟨by rw [ah xR],_,oU w1 _ _⟩):P:=h
theorem ai6.Ka82(h:P:=by
 have HF:=hide (QD kQ);go_wp2_with fail;go_ret;exact⟨aD (by rw [ah HF];simp<;>omega),fG⟩):P:=h
theorem aqb(h:P:=by
 have HS := hide hS;clear hS CG;obtain ⟨c0, c1, c2, c3, c4, c5, c6, c7, c8⟩ := nine (ah HS).own;exact Ka83):P:=h
theorem ai7.Ka83(h:P:=by
 have HM := hide c8;go_upto_region 19 with fail
 go_region_held (fun w' => w'.cell? ⟨g, 8, none⟩ = some (.slice A.r n.reqs.length A.cr)) (go_keep)
   (first | (go_at_call 29; refine (gT _ 2 _ ?_ (by omega) (by omega)).mono ?_; exact (ah HS).cur; rintro e w4 ⟨x, rfl, hx0, hx1, hc4, hk4⟩; have uM := hide ((ah HS).draw hc4 ⟨hk4.os, hk4.tape, hk4.output, hk4.size, hk4.block⟩); clear hc4 hk4; obtain ⟨d0, d1, d2, d3, d4, d5, d6, d7, d8⟩ := nine (ah uM).own; have hx2 : IntKind.i64.wrap (30 + x) = 30 + x := IntWalk.i64_in _ ⟨by omega, by omega⟩))
 all_goals
   clear c0 c1 c2 c3 c4 c5 c6 c7 c8
   by_cases hlt : (n.reqs.length : Int) < 30 + x
   · have hd : decide ((n.reqs.length : Int) < 30 + x) = true := decide_eq_true hlt;open agL in exact apM
   · have hd : decide ((n.reqs.length : Int) < 30 + x) = false := decide_eq_false hlt;exact abP):P:=h
theorem ai8.Ka83(h:P:=by
 have HM := hide c5;go_upto_region 14 with fail
 go_region_held (fun w' => w'.cell? ⟨g, 5, none⟩ = some (.slice A.o n.out.length A.co)) (go_keep)
   (first | (go_at_call 29; refine (gT _ 2 _ ?_ (by omega) (by omega)).mono ?_; exact (ah HS).cur; rintro e w4 ⟨x, rfl, hx0, hx1, hc4, hk4⟩; have uM := hide ((ah HS).draw hc4 ⟨hk4.os, hk4.tape, hk4.output, hk4.size, hk4.block⟩); clear hc4 hk4; obtain ⟨d0, d1, d2, d3, d4, d5, d6, d7, d8⟩ := nine (ah uM).own; have hx2 : IntKind.i64.wrap (40 + x) = 40 + x := IntWalk.i64_in _ ⟨by omega, by omega⟩))
 all_goals
   clear c0 c1 c2 c3 c4 c5 c6 c7 c8
   by_cases hlt : (n.out.length : Int) < 40 + x
   · have hd : decide ((n.out.length : Int) < 40 + x) = true := decide_eq_true hlt;obtain ⟨a', cp', w5, hrun, hbg, hS5⟩ := ((ah uM).new (.cells #[.int .i64 n.next, .int .i64 2, .string ⟨#[97]⟩, .int .i64 1] 55)).outPut ⟨n.next, 2, ⟨#[97]⟩, 1⟩ (by show (⟨#[97]⟩ : ByteArray).size ≤ 1048576; decide) w4.heap.size (heap_alloc_new w4 _) (by omega);have El := hide hS5;have hown5 : w5.heap[g]? = some (.cells (fO n A) 30 (0, 0)) := hbg.trans ((ah uM).new _).own;obtain ⟨e0, e1, e2, e3, e4, e5, e6, e7, e8⟩ := nine hown5;have f5 := aj hown5 5;have auT := aA hown5;obtain ⟨k0, k1, k2, k3, k4, k5, k6, k7, k8⟩ := nine hS5.own;have g3 := aj hS5.own 3;have auU := aA hS5.own;clear hS5 hown5 hbg;go_wp2_with (at_builtin; refine eX rfl _ _ 26 rfl _ _ rfl rfl _ _ hrun ?_)
     go_roundw
     case rel => exact ⟨_, _, (ah El).put (n' := { n with out := n.out ++ [⟨n.next, 2, ⟨#[97]⟩, 1⟩], next := wrap64 (n.next + 1) }) 3 (.int .i64 (wrap64 (n.next + 1))) rfl rfl rfl rfl rfl rfl⟩
     case measure =>
       have hm := ah HM;rw [hm];have e := ((ah El).put (n' := { n with out := n.out ++ [⟨n.next, 2, ⟨#[97]⟩, 1⟩], next := wrap64 (n.next + 1) }) 3 (.int .i64 (wrap64 (n.next + 1))) rfl rfl rfl rfl rfl rfl).own;rw [(nine e).2.2.2.2.2.1];simp [tV];omega
   · have hd : decide ((n.out.length : Int) < 40 + x) = false := decide_eq_false hlt;exact abP):P:=h
theorem adi(h:P:=by
 refine wp_region_quiet_below (by kernel_rfl) (by kernel_rfl) ?_;repeat (first|go_big_quiet_step (first|exact cO _ _|exact cM _ _)|quiet_step (first|exact cO _ _|exact cM _ _))
 refine wpQuiet_nil ?_;intro _ hw';obtain⟨⟨dq,osq⟩,hw''⟩:=hw';subst hw'';have kD:=hide (D7.trans ((below_regrown _ dq osq).mono D7.size));clear cO cM y0 y1 y2 y3 y4 y5 y6;exact Ka84):P:=h
theorem ai9.Ka84(h:P:=by
 go_wp2_with fail;exact bodyPost_ret (v:= .tuple #[tK ⟨1,F,T,I,L,k,N⟩,.bool true]) (by simp[results,Tryz.results102,go_sem,tK]) rfl ⟨by rw [ah HP],kD⟩):P:=h
theorem aja.Ka84(h:P:=by
 exact Ka18):P:=h
theorem ajb.Ka84(h:P:=by
 exact Ka7):P:=h
theorem adj(h:P:=by
 have CP:=hide (GR.own_below CK CS);have EW:=hide (show∀b,((.slice (some ⟨x1.heap.size,0,none⟩) 0 0:Value)).ownBlock=some b→b≠x2.heap.size from fun b hb=>by have:=(CK.lt b hb).2;omega);have EX:=hide (rR.trans (CS.mono rR.size));clear CS;exact Ka85):P:=h
theorem ajc.Ka85(h:P:=by
 generalize Qj:x2.alloc (.cells #[.int .i64 no,.string k,.int .i64 nn,.int .i64 0] 43)=y2 at *;open agu in exact apJ):P:=h
theorem ajd.Ka85(h:P:=by
 generalize Qj:x2.alloc (.cells #[.int .i64 no,.string k,.int .i64 nn,.int .i64 1] 43)=y2 at *;open agv in exact apJ):P:=h
theorem aje.Ka85(h:P:=by
 generalize Qj:x2.alloc (.cells #[.int .i64 mI] 3)=y2 at *;open amI in exact aaA):P:=h
theorem aqc(h:P:=by
 have HAT:=hide (fun W'' (ho:Out c w W' W'')=>(EZ.kc (k:=9) ((KC.keeps fu (fun x hx=>by have:x=w.heap.size+2:=(by simpa using hx);rw [this];exact aW (by omega))).trans (KC.out H9 ho)) (by omega)).rm);have lH:Hid (Below B w W'):=(rP.mono hB).trans (fu.below (fun x hx=>by have:x=w.heap.size+2:=(by simpa using hx);omega) (Nat.le_trans hB (rP.mono hB).size));have qg:=hide (Apart.keeps (c:=c) (Apart.of_below rP) (rP.mono hB).size fu (fun x hx=>by have:x=w.heap.size+2:=(by simpa using hx);omega));obtain⟨x0,x1,x2,x3,x4,x5,x6,x7,x8⟩:=nine e4;clear hW' e4 fu;exact Ka86):P:=h
theorem ajf.Ka86(h:P:=by
 exact Ka30):P:=h
theorem ajg.Ka86(h:P:=by
 exact bodyPost_ret (v:= .tuple #[.agg #[.int .i64 n.id,.int .i64 n.par,.slice A.k n.kids.length A.ck,.int .i64 n.next,.slice A.p n.pu.length A.cp,.slice A.o n.out.length A.co,.slice A.s n.seen.length A.cs,.int .i64 n.old,.slice A.r n.reqs.length A.cr],.slice (some ⟨W1.heap.size,0,none⟩) 0 0,.int .i64 3]) (by simp[results,Tryz.results63,go_sem,x0,x1,x2,x3,x4,x5,x6,x7,x8]) rfl ⟨A,some ⟨W1.heap.size,0,none⟩,0,rfl,HAT,fun W'' _ i hi=>by simp at hi,lH,qg⟩):P:=h
theorem aqd(h:P:=by
 go_wp2_with fail;refine(jr X A1 HPR.1 xZ.at.p).mono ?_;rintro e W5 ⟨v,rfl,_,hown,hb5⟩;obtain⟨pa,pc,rfl,_⟩:=GR.own_at (enc:=eG) aV hown;have kS:=hide (au fP hb5);have iX:=hide (au qb hb5);have uj:=hide (kR.trans (hb5.mono kR.size));have Lu:=hide (xZ.kc (k:=9) (KC.of_below hb5) (by omega));have Ai:=hide hown;have hxr:=aA qb;clear hown hb5 c0 c1 c2 c3 c4 c5 c6 c7 c8 p0 p1 p2 p3 p4 p5 p6 p7 p8 p9 mZ hnl hol jr fP HOX qb xZ HPR kR;obtain⟨c0,c1,c2,c3,c4,c5,c6,c7,c8⟩:=nine kS;have hnl:=aA kS;exact Ka87):P:=h
theorem ajh.Ka87(h:P:=by
 have f4:=aj kS 4;go_upto_region 11 with fail;refine wp_at (fun Y hY=>?_)
 have hky:aC [w.heap.size] W5 Y:=by
  rw [hY];exact aC.set _
 have nH:Hid (Y.heap[w.heap.size]?=some (.cells #[.int .i64 n.id,.int .i64 n.par,.slice A1.k n.kids.length A1.ck,.int .i64 n.next,.slice pa RL.length pc,.slice A1.o n.out.length A1.co,.slice A1.s n.seen.length A1.cs,.int .i64 n.old,.slice A1.r n.reqs.length A1.cr] 30 (0,0))):=by
  rw [hY];exact bg kS 4 (.slice pa RL.length pc)
 have lN:=hide (hky.obj iX (by simp));have zF:=hide (uj.trans (hky.below (B:=w.heap.size) (fun x hx=>by have:x=w.heap.size:=(by simpa using hx);omega) uj.size));have asn:=hide (Lu.kc (k:=9) (KC.keeps hky (fun x hx=>by have:x=w.heap.size:=(by simpa using hx);rw [this];exact yZ)) (by omega));have asv:=hide (dB Ai hky (fun x hx=>by have:x=w.heap.size:=(by simpa using hx);omega));clear hY hky f4 c0 c1 c2 c3 c4 c5 c6 c7 c8 hnl kS iX uj Lu Ai;obtain⟨c0,c1,c2,c3,c4,c5,c6,c7,c8⟩:=nine nH;have hnl:=aA nH;open amF in exact aaz):P:=h
theorem aji.Ka87(h:P:=by
 go_upto_region 9 with fail;open alF in exact aag):P:=h
theorem yu(h:P:=by
 obtain⟨id,par,kids,next,pu,out,seen,old,reqs⟩:=n;obtain⟨ak,ap,ao,as',ar,ck,cp,co,cs,cr⟩:=A;exact Ka88):P:=h
theorem ajj.Ka88(h:P:=by
 dsimp only at hl HA HD CJ um zH Ac ⊢;cases h1:pE id
 case' false=>
  have HP:=hide (HD (by rw [h1];rfl))
  clear HD CJ um zH Ac
  go_enter Tryz.func18,Tryz.ntmps18
  go_wp2_with (first|(go_at_call 53;refine(jS _ false _ h1).mono ?_;rintro e w1 ⟨rfl,rfl⟩))
  go_ret
  exact⟨aD HP.symm,ay w _⟩
 cases h2:decide (-1≤par∧par≤29)
 case' false=>
  have HP:=hide (HD (by rw [h2];simp))
  clear HD CJ um zH Ac
  go_enter Tryz.func18,Tryz.ntmps18
  go_wp2_with (first|(go_at_call 53;refine(jS _ true _ h1).mono ?_;rintro e w1 ⟨rfl,rfl⟩)|(go_at_call 23;refine(qC _ _ _ false _ h2).mono ?_;rintro e w1 ⟨rfl,rfl⟩))
  go_ret
  exact⟨aD HP.symm,ay w _⟩
 by_cases h3:par=id
 case' pos=>
  have hb3:(par == id)=true:=by simp[h3]
  have HP:=hide (HD (by simp[h3]))
  clear h3 HD CJ um zH Ac
  go_enter Tryz.func18,Tryz.ntmps18
  go_wp2_with (first|(go_at_call 53;refine(jS _ true _ h1).mono ?_;rintro e w1 ⟨rfl,rfl⟩)|(go_at_call 23;refine(qC _ _ _ true _ h2).mono ?_;rintro e w1 ⟨rfl,rfl⟩))
  go_ret
  exact⟨aD HP.symm,ay w _⟩
 have hb3:(par == id)=false:=by simp[h3]
 by_cases h4:kids.length≤30
 case' neg=>
  have hb4:decide ((30:Int) < kids.length)=true:=decide_eq_true (by omega)
  have HP:=hide (HD (by simp[h4]))
  clear HD CJ um zH Ac
  go_enter Tryz.func18,Tryz.ntmps18
  go_wp2_with (first|(go_at_call 53;refine(jS _ true _ h1).mono ?_;rintro e w1 ⟨rfl,rfl⟩)|(go_at_call 23;refine(qC _ _ _ true _ h2).mono ?_;rintro e w1 ⟨rfl,rfl⟩))
  go_ret
  exact⟨aD HP.symm,ay w _⟩
 have hb4:decide ((30:Int) < kids.length)=false:=decide_eq_false (by omega);have mg:=hide (CJ h1 (of_decide_eq_true h2) h3 h4);clear HD CJ;go_enter Tryz.func18,Tryz.ntmps18
 go_wp2_with (first|(go_at_call 53;refine(jS _ true _ h1).mono ?_;rintro e w1 ⟨rfl,rfl⟩)|(go_at_call 23;refine(qC _ _ _ true _ h2).mono ?_;rintro e w1 ⟨rfl,rfl⟩))
 go_loopw [3] (fun i wr=>∃k:Nat,k≤kids.length∧i= .int .i64 k∧gH (iP id par) gU (kids.take k)=true∧wr.heap[w.heap.size]?=some (.cells (fO ⟨id,par,kids,next,pu,out,seen,old,reqs⟩ ⟨ak,ap,ao,as',ar,ck,cp,co,cs,cr⟩) 30 (0,0))∧Below w.heap.size w wr) (fun i _=>kids.length - (intOf i).toNat)
 case atStart=>exact⟨0,Nat.zero_le _,rfl,rfl,heap_alloc_new w _,ay w _⟩
 case round=>
  open ak1 in exact Oo):P:=h
theorem ajk.Ka88(h:P:=by
 dsimp only at hl hl2 HA HS NK HD um zH Ac Hq kR ⊢;go_enter Tryz.func20,Tryz.ntmps20
 go_upto_if 12 with fail;open ajN in exact adl):P:=h
theorem ajl.Ka88(h:P:=by
 dsimp only at Il WI HTO Hq HOT Ip HD kR ⊢;have hlo:=hz.o;have hlr:=hz.r;dsimp only at hlo hlr;clear ha hz;go_enter Tryz.func9,Tryz.ntmps9
 go_upto_region 1 with fail;open ajM in exact adl):P:=h
theorem ajm.Ka88(h:P:=by
 obtain⟨si,st,sx,sn⟩:=s;dsimp only at hl HA Wz vK Ae HP HR HO HB ⊢;obtain⟨c0,c1,c2,c3,c4,c5,c6,c7,c8⟩:=nine HP;obtain⟨d0,d1,d2,d3⟩:=fC HR;go_enter Tryz.func84,Tryz.ntmps84
 go_wp2_with fail;go_loopw [5,13] (fun lv i wr=>∃k:Nat,k≤out.length∧i= .int .i64 k∧lv= .int .i64 si∧(out.take k).find? (fun o=>decide (o.t=st))=none∧Below (((w.alloc (.cells (fO ⟨id,par,kids,next,pu,out,seen,old,reqs⟩ ⟨ak,ap,ao,as',ar,ck,cp,co,cs,cr⟩) 30)).alloc (.cells #[.int .i64 si,.int .i64 st,.string sx,.int .i64 sn] 55)).alloc (.cells zm7 32)).heap.size (((w.alloc (.cells (fO ⟨id,par,kids,next,pu,out,seen,old,reqs⟩ ⟨ak,ap,ao,as',ar,ck,cp,co,cs,cr⟩) 30)).alloc (.cells #[.int .i64 si,.int .i64 st,.string sx,.int .i64 sn] 55)).alloc (.cells zm7 32)) wr) (fun _ i _=>out.length - (intOf i).toNat)
 case atStart=>exact⟨0,Nat.zero_le _,rfl,rfl,rfl,Below.refl _ _⟩
 case round=>
  obtain⟨k,hk,rfl,rfl,hno,hbx⟩:=hrel;have HN:=hide hno;have rG:=hide (au HP hbx);have HR1:=hide (au HR hbx);have HO1:=hide (au HO hbx);have HB1:=hide (HB.trans (hbx.mono HB.size));have kR:=hide hbx;clear hno hbx c0 c1 c2 c3 c4 c5 c6 c7 c8 d0 d1 d2 d3;obtain⟨c0,c1,c2,c3,c4,c5,c6,c7,c8⟩:=nine rG;obtain⟨d0,d1,d2,d3⟩:=fC HR1;have hrz:=aA HO1;have awm:w.heap.size+1 < wr.heap.size:=by omega
  have awl:w.heap.size < wr.heap.size:=by omega
  by_cases hlt:k < out.length
  ·obtain⟨g,off,e0,hgw,q0,q1,q2,q3⟩:=SentAt.four (GR.At.below HA HB1) k hlt;(try dsimp only at e0 q0 q1 q2 q3)
   subst e0;by_cases ht:(out[k]).t=st
   ·have HY:=hide (Wz k hlt HN ht);have hb:((out[k]).t == st)=true:=by simp[ht]
    clear ht Wz vK Ae;generalize out[k]=sk at *;obtain⟨ui,ut,ux,un⟩:=sk;dsimp only at q0 q1 q2 q3 hb HY;have hyy:=ah HY;subst hyy;go_upto_region 8 with fail;refine wp_at (fun W3 hW3=>?_);have hbw:Below wr.heap.size wr W3:=by rw [hW3];exact ay wr _
    open aiJ in exact ap5
   ·have HS:=hide (vK k hlt HN ht);have hb:((out[k]).t == st)=false:=by simp[ht]
    clear ht Wz vK Ae;generalize out[k]=sk at *;obtain⟨ui,ut,ux,un⟩:=sk;dsimp only at q0 q1 q2 q3 hb;go_wp2_with fail;go_roundw
    case rel=>exact⟨k+1,by omega,by go_num,rfl,HS,kR.alloc kR.size _⟩
    case measure=>simp[intOf];omega
  ·open akK in exact Ol):P:=h
theorem ajn.Ka88(h:P:=by
 dsimp only at hl HA Wz vK Ae c0 c1 c2 c3 c4 c5 c6 c7 c8 ⊢;go_enter Tryz.func119,Tryz.ntmps119
 go_wp2_with fail;go_loop [7] (fun i=>∃k:Nat,k≤out.length∧i= .int .i64 k∧(out.take k).find? (fun o=>decide (o.t=t))=none) (fun i=>out.length - (intOf i).toNat)
 case atStart=>exact⟨0,Nat.zero_le _,rfl,rfl⟩
 case round=>
  obtain⟨k,hk,rfl,hno⟩:=hrel;have HN:=hide hno;clear hno;by_cases hlt:k < out.length
  ·obtain⟨g,off,e0,hgw,q0,q1,q2,q3⟩:=SentAt.four HA k hlt;subst e0;by_cases ht:(out[k]).t=t
   ·have HY:=hide (Wz k hlt HN ht);have hb:((out[k]).t == t)=true:=by simp[ht]
    clear ht Wz vK Ae;generalize out[k]=sk at *;obtain⟨si,st,sx,sn⟩:=sk;dsimp only at q0 q1 q2 q3 hb HY;go_wp2_with fail;go_ret;exact⟨OZ HY.symm,ay w _⟩
   ·have HS:=hide (vK k hlt HN ht);have hb:((out[k]).t == t)=false:=by simp[ht]
    clear ht Wz vK Ae;generalize out[k]=sk at *;obtain⟨si,st,sx,sn⟩:=sk;dsimp only at q0 q1 q2 q3 hb;go_wp2_with fail;go_round
    case rel=>exact⟨k+1,by omega,by go_num,HS⟩
    case measure=>simp[intOf];omega
  ·open akJ in exact Ol):P:=h
theorem ajo.Ka88(h:P:=by
 obtain⟨si,st,sx,sn⟩:=s;dsimp only at hl HLW hP hR hO hB ⊢;have HP:=hide hP;have HR:=hide hR;have HO:=hide hO;have HB:=hide hB;clear ha hP hR hO hB Ra;go_enter Tryz.func96,Tryz.ntmps96
 go_upto_region 1 with fail;refine wp_at (fun W hW=>?_);rw [←hW] at HP HR HO HB;have asj:=hide (HLW W HB);have hz2:w.heap.size+1+1 < W.heap.size:=aA HO;have hz1:w.heap.size+1 < W.heap.size:=by omega
 have hz0:w.heap.size < W.heap.size:=by omega
 have hne0:w.heap.size+1+1≠w.heap.size:=by omega
 have hne1:w.heap.size+1+1≠w.heap.size+1:=by omega
 clear hW HLW;obtain⟨c0,c1,c2,c3,c4,c5,c6,c7,c8⟩:=nine HP;obtain⟨d0,d1,d2,d3⟩:=fC HR
 go_region_held (fun w'=>(w'.cell? ⟨w.heap.size,0,none⟩=some (.int .i64 id)∧w'.cell? ⟨w.heap.size,1,none⟩=some (.int .i64 par)∧w'.cell? ⟨w.heap.size,2,none⟩=some (.slice ak kids.length ck)∧w'.cell? ⟨w.heap.size,3,none⟩=some (.int .i64 next)∧w'.cell? ⟨w.heap.size,4,none⟩=some (.slice ap pu.length cp)∧w'.cell? ⟨w.heap.size,5,none⟩=some (.slice ao out.length co)∧w'.cell? ⟨w.heap.size,6,none⟩=some (.slice as' seen.length cs)∧w'.cell? ⟨w.heap.size,7,none⟩=some (.int .i64 old)∧w'.cell? ⟨w.heap.size,8,none⟩=some (.slice ar reqs.length cr))∧w'.cell? ⟨w.heap.size+1,0,none⟩=some (.int .i64 si)∧w'.cell? ⟨w.heap.size+1,1,none⟩=some (.int .i64 st)∧w'.cell? ⟨w.heap.size+1,2,none⟩=some (.string sx)∧w'.cell? ⟨w.heap.size+1,3,none⟩=some (.int .i64 sn)) (first|go_keep|(refine⟨⟨?_,?_,?_,?_,?_,?_,?_,?_,?_⟩,?_,?_,?_,?_⟩<;>first|exact arw hne0 (by assumption)|exact arw hne1 (by assumption)))
  (first
   |(go_at_call 119;refine(asj W.drew rfl).mono ?_;rintro e w5 ⟨rfl,hb5⟩;have hb6:Below W.heap.size W w5:=⟨hb5.os,hb5.tape,hb5.output,hb5.size,hb5.block⟩;clear hb5;have Ht:=hide (au HP hb6);have N8:=hide (au HR hb6);have xQ:=hide (au HO hb6);have jd:=hide (HB.trans (hb6.mono HB.size));clear hb6;obtain⟨y0,y1,y2,y3,y4,y5,y6,y7,y8⟩:=nine Ht;obtain⟨z0,z1,z2,z3⟩:=fC N8;obtain⟨r0,r1,r2,r3,r4,r5,r6⟩:=iZ xQ;have f0:=aj xQ 0;have f1:=aj xQ 1;have f2:=aj xQ 2;have f3:=aj xQ 3;have f4:=aj xQ 4;have f5:=aj xQ 5;have f6:=aj xQ 6))
 all_goals
  go_wp2_with fail
  refine aR (fun W' hW'=>?_)
  have hR:=vF (b0:= .int .i64 1) (b1:= .int .i64 id) (b2:= .int .i64 st) (b3:= .int .i64 si) (b4:= .int .i64 LO) (b5:= .string sx) (b6:= .int .i64 sn) xQ
  have hK:=qQ (w:=w5) (g:=w.heap.size+1+1) (b0:= .int .i64 1) (b1:= .int .i64 id) (b2:= .int .i64 st) (b3:= .int .i64 si) (b4:= .int .i64 LO) (b5:= .string sx) (b6:= .int .i64 sn)
  rw [←hW'] at hR hK
  obtain⟨x0,x1,x2,x3,x4,x5,x6⟩:=iZ hR
  refine bodyPost_ret (v:= .agg #[.int .i64 1,.int .i64 id,.int .i64 st,.int .i64 si,.int .i64 LO,.string sx,.int .i64 sn]) (by simp[results,Tryz.results96,go_sem,x0,x1,x2,x3,x4,x5,x6]) rfl ⟨rfl,jd.trans (hK.below (fun x hx=>by have:x=w.heap.size+1+1:=(by simpa using hx);omega) jd.size)⟩):P:=h
theorem ajp.Ka88(h:P:=by
 dsimp only at hlo HAO Lv mg AO Il ⊢;go_enter Tryz.func62,Tryz.ntmps62
 go_upto_region 1 with fail;refine wp_at (fun W0 hW0=>?_);rw [←hW0] at Lv;have HB0:Hid (Below w.heap.size w W0):=by rw [hW0];exact ay w _
 have Yl:w.heap.size < W0.heap.size:=aA Lv;have awh:w.heap.size≠W0.heap.size:=by omega
 clear hW0;have ae8:Hid ((W0.alloc (.cells #[] 32)).ownsRow W0.heap.size 32 7 (.slice (some ⟨W0.heap.size,0,none⟩) 0 0) 0 []):=World.ownsRow_lit (base:=W0.heap.size) (e:=32) (size:=7) W0 #[] 0 (Nat.le_refl _) (by decide) rfl;go_wp2_with fail;go_loopw [3,4] (fun ov i wr=>∃(k:Nat) (va:Option Addr) (vc:Nat),k≤out.length∧i= .int .i64 k∧ov= .slice va k vc∧wr.ownsRow W0.heap.size 32 7 (.slice va k vc) k (GR.flat je ((out.take k).map PM))∧Below W0.heap.size W0 wr∧(0 < k→OK=true)) (fun _ i _=>out.length - (intOf i).toNat)
 case atStart=>exact⟨0,some ⟨W0.heap.size,0,none⟩,0,Nat.zero_le _,rfl,rfl,ae8,ay W0 _,fun h=>by omega⟩
 case round=>
  obtain⟨k,va,vc,hk,rfl,rfl,hown,hbel,hpos⟩:=hrel;have HO:=hide hown;have fG:=hide hbel;have HW:=hide (HB0.trans (hbel.mono HB0.size));have rG:=hide (au Lv hbel);clear hown hbel ae8;obtain⟨c0,c1,c2,c3,c4,c5,c6,c7,c8⟩:=nine rG;by_cases hlt:k < out.length
  ·obtain⟨g,off,e0,hg,q0,q1,q2,q3⟩:=SentAt.four (GR.At.below HAO HB0) k hlt;subst e0;have afg:=hide (mg wr HW);go_wp2_with fail;refine afg.mono ?_;rintro e w4 ⟨rfl,hb4⟩;have Hr:=hide (GR.own_below HO hb4);have Av:=hide (fG.trans (hb4.mono fG.size));clear hb4 afg c0 c1 c2 c3 c4 c5 c6 c7 c8 rG fG HW HO;have Pp:=hide (au Lv Av);have vR:=hide (HB0.trans (Av.mono HB0.size));cases WV:OK
   ·have hk0:k=0:=by
     rcases Nat.eq_zero_or_pos k with h|h
     ·exact h
     ·exact absurd (hpos h) (by rw [WV];simp)
    subst hk0;have HE:Hid (L=[]):=by rw [ah Il,WV];rfl
    clear hpos WV Il;go_wp2_with fail;go_ret;rw [ah HE];exact xW.of_own rfl Hr (by omega) vR
   ·clear hpos;have acZ:=hide (AO out[k] w4 vR);have HT:=hide (show(out.take (k+1)).map PM=(out.take k).map PM++[PM out[k]] by rw [List.take_succ_eq_append_getElem hlt,List.map_append];rfl);generalize out[k]=sk at *;generalize PM sk=mk at *;obtain⟨si,st,sx,sn⟩:=sk;obtain⟨mK,mF,mT,mI,mL,mk,mN⟩:=mk;dsimp only at q0 q1 q2 q3;have HQ0:=hide q0;have HQ1:=hide q1;have HQ2:=hide q2;have HQ3:=hide q3;have x0:=(Av.cell (p:=⟨g,off+k*4,none⟩) hg).trans q0;have x1:=(Av.cell (p:=⟨g,off+k*4+1,none⟩) hg).trans q1;have x2:=(Av.cell (p:=⟨g,off+k*4+2,none⟩) hg).trans q2;have x3:=(Av.cell (p:=⟨g,off+k*4+3,none⟩) hg).trans q3;clear q0 q1 q2 q3;obtain⟨c0,c1,c2,c3,c4,c5,c6,c7,c8⟩:=nine Pp;go_wp2_with fail
    go_region_held_law (fun w'=>(w'.cell? ⟨w.heap.size,0,none⟩=some (.int .i64 id)∧w'.cell? ⟨w.heap.size,1,none⟩=some (.int .i64 par)∧w'.cell? ⟨w.heap.size,2,none⟩=some (.slice ak kids.length ck)∧w'.cell? ⟨w.heap.size,3,none⟩=some (.int .i64 next)∧w'.cell? ⟨w.heap.size,4,none⟩=some (.slice ap pu.length cp)∧w'.cell? ⟨w.heap.size,5,none⟩=some (.slice (some ⟨g,off,none⟩) out.length co)∧w'.cell? ⟨w.heap.size,6,none⟩=some (.slice as' seen.length cs)∧w'.cell? ⟨w.heap.size,7,none⟩=some (.int .i64 old)∧w'.cell? ⟨w.heap.size,8,none⟩=some (.slice ar reqs.length cr))∧w'.cell? ⟨g,off+k*4,none⟩=some (.int .i64 si)∧w'.cell? ⟨g,off+k*4+1,none⟩=some (.int .i64 st)∧w'.cell? ⟨g,off+k*4+2,none⟩=some (.string sx)∧w'.cell? ⟨g,off+k*4+3,none⟩=some (.int .i64 sn)) (go_keep)
     (first
      |((go_at_call 96);(refine(acZ w4.drew rfl).mono ?_);(rintro e w5 ⟨rfl,hb5⟩);(have hb6:Below w4.heap.size w4 w5:=⟨hb5.os,hb5.tape,hb5.output,hb5.size,hb5.block⟩);(clear hb5);(have xQ:=hide (GR.own_below Hr hb6));(have kD:=hide (Av.trans (hb6.mono Av.size)));(clear hb6);(have Ht:=hide (au Lv kD));(obtain⟨y0,y1,y2,y3,y4,y5,y6,y7,y8⟩:=nine Ht);(have u0:=(kD.cell (p:=⟨g,off+k*4,none⟩) hg).trans HQ0);(have u1:=(kD.cell (p:=⟨g,off+k*4+1,none⟩) hg).trans HQ1);(have u2:=(kD.cell (p:=⟨g,off+k*4+2,none⟩) hg).trans HQ2);(have u3:=(kD.cell (p:=⟨g,off+k*4+3,none⟩) hg).trans HQ3))
      |((refine yU _ rfl (.tmp 17) (.tmp 25) 37 rfl W0.heap.size 32 i0 (.agg #[.int .i64 0,.int .i64 0,.int .i64 0,.int .i64 0,.int .i64 0,.string ByteArray.empty,.int .i64 0]) 7 64 Tryz.underlying37 hi hz0 hz1 hz2 rfl (by decide) (.slice va k vc) k (GR.flat je ((out.take k).map PM)) (by simp[Act.eval]) (xQ.alloc _) ⟨w5.heap.size,0,none⟩ 1 1 (je ⟨mK,mF,mT,mI,mL,mk,mN⟩) (by simp[Act.eval]) rfl (World.news_of_block (heap_alloc_new w5 _)) (Jh _) (by unfold maxLen;omega) (by omega) (Nat.le_trans kD.size (by simp)) ?_);(intro v6 w6 hown6 qy Jo);(have og:w6.ownsRow W0.heap.size 32 7 v6 (k+1) (GR.flat je ((out.take (k+1)).map PM)):=by rw [ah HT,gN];exact hown6);(obtain⟨va6,vc6,hv6,_⟩:=GR.own_at (enc:=je) (sz:=7) (l:=(out.take (k+1)).map PM) mG (by rw [List.length_map,List.length_take,Nat.min_eq_left (by omega)];exact og));(rw [List.length_map,List.length_take,Nat.min_eq_left (by omega)] at hv6);(subst hv6);(have HO6:=hide og);(have Pd:=hide (show Below W0.heap.size W0 w6 from(kD.alloc kD.size _).trans (FE qy (fun k e=>(xQ.lt k e).1) (Nat.le_trans kD.size (by simp)))));(clear hown6 qy Jo og);(have R5:=hide (au Lv Pd));(obtain⟨z0,z1,z2,z3,z4,z5,z6,z7,z8⟩:=nine R5);(have t0:=(Pd.cell (p:=⟨g,off+k*4,none⟩) hg).trans HQ0);(have t1:=(Pd.cell (p:=⟨g,off+k*4+1,none⟩) hg).trans HQ1);(have t2:=(Pd.cell (p:=⟨g,off+k*4+2,none⟩) hg).trans HQ2);(have t3:=(Pd.cell (p:=⟨g,off+k*4+3,none⟩) hg).trans HQ3))
      |fail)
    all_goals
     go_wp2_with fail
     go_roundw
     case rel=>exact⟨k+1,va6,vc6,by omega,by go_num,rfl,HO6,Pd,fun _=>WV⟩
     case measure=>simp[intOf];omega
  ·open akI in exact Ol):P:=h
theorem ajq.Ka88(h:P:=by
 dsimp only at hl HD HA um jr vK NJ kR ⊢;clear ha;go_enter Tryz.func38,Tryz.ntmps38
 go_upto_region 1 with fail;refine wp_at (fun W0 hW0=>?_);have hblk:W0.heap[w.heap.size]?=some (.cells (fO ⟨id,par,kids,next,pu,out,seen,old,reqs⟩ ⟨ak,ap,ao,as',ar,ck,cp,co,cs,cr⟩) 30 (0,0)):=by rw [hW0];exact kR
 have Ig:Hid (Below w.heap.size w W0):=by rw [hW0];exact ay w _
 obtain⟨c0,c1,c2,c3,c4,c5,c6,c7,c8⟩:=nine hblk;clear hW0 kR hblk;obtain⟨bb,hbb⟩:∃bb,(!(pE id&&(decide (par= -1)||(pE par&&decide (par≠id)))))=bb:=⟨_,rfl⟩;have eP:=hide hbb;clear hbb;go_cut [27] (fun r wx=>r= .bool bb∧wx=W0)
 case first=>
  cases h1:pE id
  case' false=>
   have HV:=hide (show bb=true by rw [←ah eP];simp[h1])
   have H1:=hide (fun w1=>isNode id false w1 h1)
   clear eP h1
   go_wp2_with (go_at_call 68;refine(H1 _).mono ?_;rintro e w1 ⟨rfl,rfl⟩)
   go_meet
   case rel=>exact⟨by rw [ah HV],rfl⟩
  have H1:=hide (fun w1=>isNode id true w1 h1);by_cases h2:par= -1
  case' pos=>
   have HV:=hide (show bb=false by rw [←ah eP];simp[h1,h2])
   have hb2:(par != -1)=false:=by simp[h2]
   clear eP h1 h2
   go_wp2_with (go_at_call 68;refine(H1 _).mono ?_;rintro e w1 ⟨rfl,rfl⟩)
   go_meet
   case rel=>exact⟨by rw [ah HV],rfl⟩
  have hb2:(par != -1)=true:=by simp[h2]
  cases h3:pE par
  case' false=>
   have HV:=hide (show bb=true by rw [←ah eP];simp[h2,h3])
   have H3:=hide (fun w1=>isNode par false w1 h3)
   clear eP h1 h2 h3
   go_wp2_with (first|(go_at_call_of 68 id;refine(H1 _).mono ?_;rintro e w1 ⟨rfl,rfl⟩)|(go_at_call_of 68 par;refine(H3 _).mono ?_;rintro e w1 ⟨rfl,rfl⟩))
   go_meet
   case rel=>exact⟨by rw [ah HV],rfl⟩
  have H3:=hide (fun w1=>isNode par true w1 h3);by_cases h4:par=id
  case' pos=>
   have HV:=hide (show bb=true by rw [←ah eP,decide_eq_false h2,decide_eq_false (show¬(par≠id) from fun h=>h h4)];simp)
   have hb4:(par == id)=true:=by simp[h4]
   subst h4
   clear eP h1 h2 h3
   go_wp2_with (go_at_call 68;refine(H1 _).mono ?_;rintro e w1 ⟨rfl,rfl⟩)
   go_meet
   case rel=>exact⟨by rw [ah HV],rfl⟩
  have HV:=hide (show bb=false by rw [←ah eP];simp[h1,h3,h4]);have hb4:(par == id)=false:=by simp[h4]
  clear eP h1 h2 h3;go_wp2_with (first|(go_at_call_of 68 id;refine(H1 _).mono ?_;rintro e w1 ⟨rfl,rfl⟩)|(go_at_call_of 68 par;refine(H3 _).mono ?_;rintro e w1 ⟨rfl,rfl⟩))
  go_meet
  case rel=>exact⟨by rw [ah HV],rfl⟩
 case rest=>
  obtain⟨rfl,rfl⟩:=hcut;cases hbv:bb
  case' true=>
   have HP:Hid (TT=false):=by
    have h:=ah eP;rw [hbv] at h;rw [ah HD];generalize (pE id&&(decide (par= -1)||(pE par&&decide (par≠id))))=X at *;cases X
    ·rfl
    ·cases h
   clear eP HD
   subst hbv
   go_wp2_with fail
   go_ret
   exact⟨aD HP.symm,Ig⟩
  have mg:Hid (TT=gH KB gU kids):=by
   have h:=ah eP;rw [hbv] at h;rw [ah HD];generalize (pE id&&(decide (par= -1)||(pE par&&decide (par≠id))))=X at *;cases X
   ·cases h
   ·rfl
  clear eP HD;subst hbv;go_wp2_with fail;go_loop [3,31] (fun lv i=>∃(k:Nat) (y:Int),k≤kids.length∧i= .int .i64 k∧lv= .int .i64 y∧y=uF (fun x=>x) (-1) (kids.take k)∧gH KB gU (kids.take k)=true) (fun _ i=>kids.length - (intOf i).toNat)
  case atStart=>exact⟨0,-1,Nat.zero_le _,rfl,rfl,rfl,rfl⟩
  case round=>
   obtain⟨k,y,hk,rfl,rfl,hy,hall⟩:=hrel;have kQ:=hide hall;have HY:=hide hy;clear hall hy;by_cases hlt:k < kids.length
   case' neg=>
    have hke:k=kids.length:=by omega
    subst hke
    have hnlt:decide ((kids.length:Int) < (kids.length:Int))=false:=by simp
    have HF:Hid (TT=true):=by
     exact PI
    go_wp2_with fail
    go_ret
    exact⟨aD HF.symm,Ig⟩
   obtain⟨g,off,rfl,hgw,q0⟩:=dM.one (GR.At.below HA Ig) k hlt;have HBAD:Hid (gH KB gU (kids.take (k+1))=false→TT=false):=fun h=>mg.trans (um _ h)
   have fP:Hid (gH KB gU (kids.take (k+1))=(KB kids[k]&&decide (y < kids[k]))):=by
    exact abF
   have Ae:=hide (vK k hlt);have zK:=hide (NJ kids[k]);clear jr vK um NJ;generalize kids[k]=x at *;cases h1:pE x
   case' false=>
    have H1:=hide (fun w1=>isNode x false w1 h1)
    have HV:=hide (HBAD (by rw [ah fP,ah zK];simp[h1]))
    clear HBAD fP zK h1
    go_wp2_with (go_at_call 68;refine(H1 _).mono ?_;rintro e w1 ⟨rfl,rfl⟩)
    go_ret
    exact⟨aD HV.symm,Ig⟩
   have H1:=hide (fun w1=>isNode x true w1 h1);by_cases h2:y < x
   case' neg=>
    have hb2:decide (x≤y)=true:=decide_eq_true (by omega)
    have HV:=hide (HBAD (by rw [ah fP,ah zK];simp[h2]))
    clear HBAD fP zK h1
    go_wp2_with (go_at_call 68;refine(H1 _).mono ?_;rintro e w1 ⟨rfl,rfl⟩)
    go_ret
    exact⟨aD HV.symm,Ig⟩
   have hb2:decide (x≤y)=false:=decide_eq_false (by omega);by_cases h3:x=id
   case' pos=>
    have hb3:(x == id)=true:=by simp[h3]
    have HV:=hide (HBAD (by rw [ah fP,ah zK];simp[h3]))
    clear HBAD fP zK h1 h3
    go_wp2_with (go_at_call 68;refine(H1 _).mono ?_;rintro e w1 ⟨rfl,rfl⟩)
    go_ret
    exact⟨aD HV.symm,Ig⟩
   have hb3:(x == id)=false:=by simp[h3]
   by_cases h4:x=par
   case' pos=>
    have hb4:(x == par)=true:=by simp[h4]
    have HV:=hide (HBAD (by rw [ah fP,ah zK];simp[h4]))
    clear HBAD fP zK h1 h4
    go_wp2_with (go_at_call 68;refine(H1 _).mono ?_;rintro e w1 ⟨rfl,rfl⟩)
    go_ret
    exact⟨aD HV.symm,Ig⟩
   have hb4:(x == par)=false:=by simp[h4]
   have HV:=hide (show gH KB gU (kids.take (k+1))=true by rw [ah fP,ah zK];simp[h1,h2,h3,h4]);clear HBAD fP zK h1;go_wp2_with (go_at_call 68;refine(H1 _).mono ?_;rintro e w1 ⟨rfl,rfl⟩)
   exact abY):P:=h
theorem ajr.Ka88(h:P:=by
 dsimp only at hlo HD um jr vK Wy NJ kR ⊢;generalize (fun s t:Rq=>gU s.no t.no)=RR at *;cases h1:nS old
 case' false=>
  have HP:=hide (show TT=false by rw [ah HD,h1];rfl)
  have H1:=hide (fun w1=>jw old false w1 h1)
  clear h1 HD
  go_enter Tryz.func43,Tryz.ntmps43
  go_wp2_with (go_at_call 74;refine(H1 _).mono ?_;rintro e w9 ⟨rfl,rfl⟩)
  go_ret
  exact⟨aD HP.symm,ay w _⟩
 have H1:=hide (fun w1=>jw old true w1 h1);have hold:0≤old∧old≤1000000000:=of_decide_eq_true h1;obtain⟨ho1,ho2⟩:=hold;by_cases h0:reqs.length≤30
 case' neg=>
  have HP:=hide (show TT=false by rw [ah HD,decide_eq_false h0];simp)
  have hb0:decide ((30:Int) < reqs.length)=true:=decide_eq_true (by omega)
  clear h1 HD
  go_enter Tryz.func43,Tryz.ntmps43
  go_wp2_with (go_at_call 74;refine(H1 _).mono ?_;rintro e w9 ⟨rfl,rfl⟩)
  go_ret
  exact⟨aD HP.symm,ay w _⟩
 have hb0:decide ((30:Int) < reqs.length)=false:=decide_eq_false (by omega);have mg:Hid (TT=gH KB RR reqs):=by rw [ah HD,h1,decide_eq_true h0];rfl
 clear HD h1;go_enter Tryz.func43,Tryz.ntmps43
 go_wp2_with (go_at_call 74;refine(H1 _).mono ?_;rintro e w9 ⟨rfl,rfl⟩)
 go_loopw [3,21] (fun lv i wr=>∃(k:Nat) (y:Int),k≤reqs.length∧i= .int .i64 k∧lv= .int .i64 y∧y=uF (fun s=>s.no) old (reqs.take k)∧gH KB RR (reqs.take k)=true∧wr.heap[w.heap.size]?=some (.cells (fO ⟨id,par,kids,next,pu,out,seen,old,reqs⟩ ⟨ak,ap,ao,as',ar,ck,cp,co,cs,cr⟩) 30 (0,0))∧Below w.heap.size w wr) (fun _ i _=>reqs.length - (intOf i).toNat)
 case atStart=>exact⟨0,old,Nat.zero_le _,rfl,rfl,rfl,rfl,kR,ay w _⟩
 case round=>
  open an2 in exact aaV):P:=h
theorem ajs.Ka88(h:P:=by
 dsimp only at hlo HD um jr vK Wy NJ Hq kR ⊢;generalize (fun s t:jH=>gU s.i t.i)=RR at *;by_cases h0:out.length≤40
 case' neg=>
  have HP:=hide (show TT=false by rw [ah HD,decide_eq_false h0];rfl)
  have hb0:decide ((40:Int) < out.length)=true:=decide_eq_true (by omega)
  go_enter Tryz.func41,Tryz.ntmps41
  go_wp2_with fail
  go_ret
  exact⟨aD HP.symm,ay w _⟩
 have hb0:decide ((40:Int) < out.length)=false:=decide_eq_false (by omega);have mg:Hid (TT=gH KB RR out):=by rw [ah HD,decide_eq_true h0];rfl
 clear HD;go_enter Tryz.func41,Tryz.ntmps41
 go_wp2_with fail;go_loopw [3,13] (fun lv i wr=>∃(k:Nat) (y:Int),k≤out.length∧i= .int .i64 k∧lv= .int .i64 y∧y=uF (fun s=>s.i) 0 (out.take k)∧gH KB RR (out.take k)=true∧wr.heap[w.heap.size]?=some (.cells (fO ⟨id,par,kids,next,pu,out,seen,old,reqs⟩ ⟨ak,ap,ao,as',ar,ck,cp,co,cs,cr⟩) 30 (0,0))∧Below w.heap.size w wr) (fun _ i _=>out.length - (intOf i).toNat)
 case atStart=>exact⟨0,0,Nat.zero_le _,rfl,rfl,rfl,rfl,kR,ay w _⟩
 case round=>
  open an1 in exact aaV):P:=h
theorem ajt.Ka88(h:P:=by
 dsimp only at hl HC kR K9 ⊢;clear ha;go_enter Tryz.func72,Tryz.ntmps72
 go_wp2_with fail;refine HC.mono ?_;rintro e w1 ⟨v,rfl,hown,hb1⟩;have HB1:=hide ((ay w _).trans (hb1.mono (by simp)));have HO1:=hide (GR.own_lower (b':=w.heap.size) hown (by simp));obtain⟨c0,c1,_⟩:=nine (au kR hb1);clear hown hb1 HC;go_upto_if 9 with fail;go_cut [3] (fun r wx=>wx.ownsRow w.heap.size 3 1 r NB.length (GR.flat aP NB)∧Below w.heap.size w wx)
 case first=>
  by_cases hp:par= -1
  ·have hb:(par != -1)=false:=by simp[hp]
   have HE:=hide (K9.1 hp);clear hp;go_wp2_with fail;go_meet
   case rel=>exact⟨by rw [ah HE];exact HO1,HB1⟩
  ·have hb:(par != -1)=true:=by simp[hp]
   have HE:=hide (K9.2 hp);clear hp;have ho:=ah HO1;go_wp2_with (at_builtin;refine wpList_append_own _ rfl _ _ 24 rfl w.heap.size 3 i0 (.int .i64 0) 1 8 Tryz.underlying24 hi hz0 hz1 hz2 rfl (by decide) _ _ _ rfl (ho.alloc _) ⟨w1.heap.size,0,none⟩ 1 1 [.int .i64 par] rfl rfl ?c1 ?c2 ?c3 ?c4 ?c5 ?_)
   case c1=>exact cell_one_new _ _ _
   case c2=>intro u hu;simp at hu;subst hu;rfl
   case c3=>unfold maxLen;omega
   case c4=>omega
   case c5=>have:=HB1.size;simp;omega
   intro v' w6 hown' hgrow _;have uj:=hide (GR.below_append HB1 HB1.size ho hgrow)
   have HO6:Hid (w6.ownsRow w.heap.size 3 1 v' NB.length (GR.flat aP NB)):=by
    rw [ah HE,GR.flat_append,List.length_append];exact hown'
   clear hgrow ho hown';go_wp2_with fail;go_meet
   case rel=>exact⟨HO6,uj⟩
 case rest=>
  obtain⟨ho,hb⟩:=hcut;have HS:=hide (YQ w.heap.size _ NB wc hln hb.size ho);have HB2:=hide hb;clear ho hb c0 c1;go_wp2_with fail;refine HS.mono ?_;rintro e w3 ⟨rfl,ho3,hb3⟩;have Ah:=hide ho3;have HB3:=hide (HB2.trans hb3);clear ho3 hb3;go_wp2_with fail;go_ret;exact⟨_,rfl,Ah,HB3⟩):P:=h
theorem aju.Ka88(h:P:=by
 dsimp only at Il WI HOT HSE HRE HD kR ⊢;go_enter Tryz.func14,Tryz.ntmps14
 go_upto_region 1 with fail;open ajL in exact adl):P:=h
theorem ajv.Ka88(h:P:=by
 dsimp only at hls HA HD HSK K9 kR ⊢;go_enter Tryz.func42,Tryz.ntmps42
 go_wp2_with fail;refine K9.mono ?_;rintro e w1 ⟨v,rfl,hown,hb1⟩;have HB1:=hide ((ay w _).trans (hb1.mono (by simp)));have xX:=hide (au kR hb1);have hFL:=ah vK;subst hFL;obtain⟨fa,fc,rfl,hF⟩:=GR.own_at (enc:=aP) (sz:=1) aN hown;have HF:=hide hF;obtain⟨c0,c1,c2,c3,c4,c5,c6,c7,c8⟩:=nine xX;clear hown hb1 K9 kR vK hF;by_cases hlen:seen.length=F.length
 case' neg=>
  have hbn:((seen.length:Int) != (F.length:Int))=true:=by simp;omega
  have HP:=hide (show TT=false by
   rw [ah HD,decide_eq_false (show¬seen.map (·.f)=F from fun h=>hlen (by rw [←h,List.length_map]))]
   rfl)
  clear HD
  go_wp2_with fail
  go_ret
  exact⟨aD HP.symm,HB1⟩
 have hbn:((seen.length:Int) != (F.length:Int))=false:=by simp;omega
 have Ae:=hide hlen;clear hlen;go_wp2_with fail;go_loopw [17] (fun i wr=>∃k:Nat,k≤seen.length∧i= .int .i64 k∧(seen.take k).map (·.f)=F.take k∧(seen.take k).all rM=true∧Below w1.heap.size w1 wr) (fun i _=>seen.length - (intOf i).toNat)
 case atStart=>exact⟨0,Nat.zero_le _,rfl,rfl,rfl,Below.refl _ _⟩
 case round=>
  obtain⟨k,hk,rfl,hm,hall,hbx⟩:=hrel;have HM:=hide hm;have kQ:=hide hall;have kR:=hide hbx;have ET:=hide (au xX hbx);have fG:=hide (HB1.trans (hbx.mono HB1.size));clear hm hall hbx;by_cases hlt:k < seen.length
  case' neg=>
   have hke:k=seen.length:=by omega
   subst hke
   have hnlt:decide ((seen.length:Int) < (seen.length:Int))=false:=by simp
   have HP:=hide (show TT=true by
    have h1:=ah HM
    have h2:=ah kQ
    rw [List.take_length] at h1 h2
    rw [ah Ae,List.take_length] at h1
    rw [ah HD,decide_eq_true h1,h2]
    rfl)
   go_wp2_with fail
   go_ret
   exact⟨aD HP.symm,fG⟩
  have au2:k < F.length:=by rw [←ah Ae];exact hlt
  obtain⟨g,off,b,c,e0,hgw,q0,q1,q2,hI⟩:=kU.below (dQ.s HA) fG k hlt;obtain⟨g2,off2,e2,adV,p0⟩:=dM.one (GR.At.below HF kR) k au2;(try dsimp only at e0 q0 q1 q2 hI)
  subst e0 e2;have rX:=ah HSK _ (List.getElem_mem hlt);have HI:=hide hI;have HST:=hide (fun h3 h4=>QL hlt Ae.symm HM kQ h3 h4);have Cv:=hide (fun h3=>QJ (F:=F) hlt Ae.symm h3);have XH:=hide (fun h4=>QK hlt h4);clear hI;generalize seen[k]=sk at *;generalize F[k]=y at *;obtain⟨fr,lo,ids⟩:=sk;dsimp only at q0 q1 q2 HI rX HST Cv XH;go_upto_region 7 with fail;open anW in exact aaS):P:=h
theorem aqe(h:P:=by
 have HAT:=hide (fun W'' (ho:Out c w W' W'')=>(Ag.kc (k:=9) ((KC.keeps fu (fun x hx=>by have:x=w.heap.size+1:=(by simpa using hx);rw [this];exact aW (by omega))).trans (KC.out H9 ho)) (by omega)).rm);have lH:Hid (Below B w W'):=(HB1.mono hB).trans (fu.below (fun x hx=>by have:x=w.heap.size+1:=(by simpa using hx);omega) (Nat.le_trans hB (HB1.mono hB).size));have qg:=hide (Apart.keeps (c:=c) (Apart.of_below (HB1)) (HB1.mono hB).size fu (fun x hx=>by have:x=w.heap.size+1:=(by simpa using hx);omega));obtain⟨x0,x1,x2,x3,x4,x5,x6,x7,x8⟩:=nine e4;exact Ka89):P:=h
theorem ajw.Ka89(h:P:=by
 clear hW' e4 fu;exact bodyPost_ret (v:= .tuple #[.agg #[.int .i64 n.id,.int .i64 n.par,.slice A.k n.kids.length A.ck,.int .i64 n.next,.slice A.p n.pu.length A.cp,.slice A.o n.out.length A.co,.slice A.s n.seen.length A.cs,.int .i64 n.old,.slice A.r n.reqs.length A.cr],.int .i64 1]) (by simp[results,Tryz.results61,go_sem,x0,x1,x2,x3,x4,x5,x6,x7,x8]) rfl ⟨A,rfl,HAT,lH,qg⟩):P:=h
theorem ajx.Ka89(h:P:=by
 exact Ka16):P:=h
theorem aqf(h:P:=by
 go_enter Tryz.func123,Tryz.ntmps123
 go_wp2_with fail;refine WH.mono ?_;rintro e w1 ⟨mp,mb,v,rfl,yE,hb1⟩;obtain⟨hblk,hlt1,hbw⟩:=Fo.one_block hb1;have HB1:=hide hbw;have c0:w1.cell? ⟨w.heap.size,0,none⟩=some (.int .i64 dm):=by rw [cell_of_row w1 _ _ _ _ (0,0) hblk];rfl
 have c1:w1.cell? ⟨w.heap.size,1,none⟩=some (.int .i64 df):=by rw [cell_of_row w1 _ _ _ _ (0,0) hblk];rfl
 have c2:w1.cell? ⟨w.heap.size,2,none⟩=some (.int .i64 ds):=by rw [cell_of_row w1 _ _ _ _ (0,0) hblk];rfl
 exact Ka90):P:=h
theorem ajy.Ka90(h:P:=by
 have HMX:=hide (Xj _ mp mb _ v w1 hb1.size (by unfold maxLen;omega) yE (HE.below hbw));clear hb1 yE WH hblk hbw Xj;go_wp2_with (first|(go_at_call 71;refine(HK _).mono ?_;rintro e w2 ⟨rfl,rfl⟩)|(go_at_call 40;refine(Cr _).mono ?_;rintro e w2 ⟨rfl,rfl⟩))
 refine HMX.mono ?_;rintro e w3 ⟨hb3,hcase⟩;have HB3:=hide (HB1.trans (Below.mono hb3 (by simp)));clear hb3 HMX;rcases hcase with⟨hf,h20,rfl⟩|⟨hf,rfl,v',arA⟩
 ·have HAD:=hide (Rw hf h20);clear hf h20 Rw R8;go_wp2_with fail;go_ret2
  exact⟨HB3,.inl ⟨HAD,_,by omega,rfl⟩⟩
 ·obtain⟨hadd,hlen⟩:=ah R8 hf;have Xa:=hide hadd;have vK:=hide (Vg _ mp mb _ v' PL G2 w3 hlen HPA xR arA);clear hf Rw R8 hadd arA;go_wp2_with fail;refine vK.mono ?_;rintro e w4 ⟨rfl,acz,hb4⟩;have kC:=hide (HB3.trans (hb4.mono HB3.size));have HK4:=hide acz;clear hb4 acz;go_wp2_with fail;go_ret2
  rw [ah Xa];exact⟨kC,.inr ⟨rfl,_,HB3.size,rfl,HK4⟩⟩):P:=h
theorem ajz.Ka90(h:P:=by
 have HMX:=hide (Xj _ mp mb _ v w1 yE (HE.below hbw));clear hb1 yE WH hblk hbw Xj;go_wp2_with (first|(go_at_call 71;refine(HK _).mono ?_;rintro e w2 ⟨rfl,rfl⟩)|(go_at_call 40;refine(Cr _).mono ?_;rintro e w2 ⟨rfl,rfl⟩)|(go_at_call 145;refine HMX.mono ?_;rintro e w3 ⟨i,hi,rfl,hb3⟩))
 go_ret2
 exact⟨HB1.trans (hb3.mono HB1.size),.inl ⟨HAD,i,hi,rfl⟩⟩):P:=h
theorem aqg(h:P:=by
 open anx in exact aaM):P:=h
theorem ajA.Ka91(h:P:=by
 have r1:=cell_regrown q1;have r2:=cell_regrown q2;have r3:=cell_regrown q3;have e4:=cell_regrown d4;refine bJ 23 (by kernel_rfl) ?_;show dZ _ _ _ _ _ 25 (Array.replicate 25 false) _ _
 refine tk [0,1,2,3,4,5,6,7,8,9,10,11,12,13,14,15,16,17,18,19] ?_;iterate 20 (refine oJ (fun K hK=>?_);go_simp;refine hK _ ?_;clear hK K)
 refine kK ?_;clear r1 r2 r3 e4;refine dK 20 rfl (by kernel_rfl) (by rfl) (fun x hx=>?_);go_simp;have HX:=hide (HZ1.step hx);refine(ZA x HX).mono ?_;rintro e y ⟨a,cp,g5,hg5,rfl,hp,hby⟩;refine⟨hby,?_⟩;have HST:=hide (fun u (hu:Ge y u)=>YN (cp:=cp) HX (hby.trans (hu.mono hby.size)) hg5 (hp.below hu));clear hby hg5 hp ZA hx;refine tk [21,22] ?_;iterate 2 (refine oJ (fun K hK=>?_);go_simp;refine hK _ ?_;clear hK K)
 refine kK ?_;refine aZ (by kernel_rfl) (fun u hu=>?_);refine aF 23 rfl (by kernel_rfl) (by rfl) ?_;go_simp;refine(HST u hu).mono ?_;rintro e z2 ⟨rfl,A',G',c',hZ2,hA2⟩;have HZ2:=hide hZ2;have HA2:=hide (hA2.trans hAr);clear hZ2 HST hu hA2 d0 d1 d2 d3 d4 d5 d6 d7 d8 d9 q0 q1 q2 q3 qf;obtain⟨rl,rb⟩:=r;dsimp only at HZ2 ⊢;refine aF 24 rfl (by kernel_rfl) (by rfl) ?_;go_simp;refine wpAny_done (by kernel_rfl) ?_;go_simp;cases rb
 ·rw [if_neg (by simp)] at HZ2;obtain⟨g6,hA6,_,hg6,⟨s0,s1,s2,s3⟩,sf⟩:=HZ2.reqRow i hil;rw [ah HA2] at hA6;cases hA6
  rw [hs] at s3;go_wp2_with fail;go_ret;exact⟨rfl,A',G',c',HZ2⟩
 ·rw [if_pos rfl] at HZ2;obtain⟨g6,hA6,_,hg6,⟨s0,s1,s2,s3⟩,sf⟩:=HZ2.reqRow i hil;rw [ah HA2] at hA6;cases hA6
  have zI:=hide (HZ2.reqSet i hil g HA2);clear HZ2 HZ1 HX HW;go_wp2_with fail;go_ret;exact⟨rfl,A',G',c',zI⟩):P:=h
theorem ajB.Ka91(h:P:=by
 have r3:=cell_regrown q3;refine gu (by kernel_rfl) ?_;show jq _ _ _ _ 25 (Array.replicate 25 false) _ _
 refine tk [0,1,2,3,4,5,6,7,8,9,10,11,12,13,14,15,16,17,18,19,20,21,22,23,24] ?_;iterate 25 (refine Rm (fun K hK=>?_);go_simp;refine hK _ ?_;clear hK K)
 refine kK ?_;refine iO (by kernel_rfl) (fun x hx=>?_);have HX:=hide (HZ1.step hx);have x3:=(I8 hx).1 g (i*4+3) hgl;clear hx r3;go_simp;go_wp2_with fail;go_ret;exact⟨rfl,A,G,c,HX⟩):P:=h
theorem aqh(h:P:=by
 rw [←hW] at e1 e2 e3;have HN:=hide e1;have HR:=hide e2;have HB0:=hide e3;have Ee:=hide (l7.kc (k:=9) (KC.of_below e3) (by omega));clear hW e1 e2 e3 l7 hbw0;obtain⟨c0,c1,c2,c3,c4,c5,c6,c7,c8⟩:=nine HN;have hnl:=aA HN;go_wp2_with fail;refine(Ai W0 Ee.at.p).mono ?_;open aoN in exact abh):P:=h
theorem ajC.Ka92(h:P:=by
 have HI:=hide (And.intro hi (And.intro hz0 (And.intro hz1 hz2)));clear hi hz0 hz1 hz2;obtain⟨c0,c1,c2,c3,c4,c5,c6,c7,c8⟩:=nine jG;have hnl:=aA jG;have hrl:=aA qb;go_wp2_with fail;rw [yB];go_upto_region 6 with fail;go_wp2_with fail;refine(HPT W1 Ag.at.p).mono ?_;rintro e W2 ⟨v,rfl,hne,hrow,hb2⟩;obtain⟨av,cv,rfl,_⟩:=GR.own_at (enc:=eG) (sz:=4) aV hrow;have jg:=hide (au jG hb2);have iW:=hide (au qb hb2);have HB2:=hide (HB1.trans (hb2.mono HB1.size));have RZ:=hide (Ag.kc (k:=9) (KC.of_below hb2) (by omega));have ze:=hide hrow;have hbs:w.heap.size+1 < W1.heap.size:=hrl;generalize W1.heap.size=bs at *;clear hb2 hne hrow c0 c1 c2 c3 c4 c5 c6 c7 c8 hnl hrl HPT jG qb HB1 Ag;have f4n:=aj jg 4;have c4n:=(nine jg).2.2.2.2.1;have hn2:=aA jg;go_upto_region 7 with fail;refine wp_at (fun Z6 hZ=>?_);have kS:Hid (Z6.heap[w.heap.size]?=some (.cells #[.int .i64 n.id,.int .i64 n.par,.slice a_k n.kids.length aK,.int .i64 n.next,.slice av RL.length cv,.slice dP n.out.length aO,.slice dS n.seen.length aL,.int .i64 n.old,.slice fA n.reqs.length aT] 30 (0,0))):=by rw [hZ];exact mV jg
 have iX:Hid (Z6.heap[w.heap.size+1]?=some (.cells iV 30 (0,0))):=by rw [hZ];exact jB iW (by omega)
 have HN6:Hid (NQ Z6 B n (⟨a_k,(some ⟨gp,0,none⟩),dP,dS,fA,aK,bq,aO,aL,aT⟩:bQ) G (newC w.heap.size 9 c)):=by rw [hZ];exact RZ.kc (k:=9) (KC.set (aW (Nat.le_refl _))) (by omega)
 have R5:Hid (Z6.ownsRow bs 84 4 (.slice av RL.length cv) RL.length (GR.flat eG RL)):=by rw [hZ];exact dB ze (aC.set _) (fun y hy=>by have:y=w.heap.size:=(by simpa using hy);omega)
 have uj:Hid (Below B w Z6):=by rw [hZ];exact(HB2.mono hB).setCell (p:=⟨w.heap.size,4,none⟩) hB _
 have HK6:Hid (Apart c w Z6):=by rw [hZ];exact(Apart.of_below HB2).keeps HB2.size (aC.set _) (fun y hy=>by have:y=w.heap.size:=(by simpa using hy);omega)
 clear hZ jg iW RZ ze HB2 f4n c4n hn2;have c3n:=(nine kS).2.2.2.1;exact Ka11):P:=h
theorem ajD.Ka92(h:P:=by
 have oI:=hide (au qb (ay W1 (.cells #[] 32)));obtain⟨c0,c1,c2,c3,c4,c5,c6,c7,c8⟩:=nine jG;open aha in exact PD):P:=h
theorem aqi(h:P:=by
 go_enter Tryz.func56, Tryz.ntmps56
 go_wp2_with fail;generalize wrap64 (wrap64 (h * 6364136223846793005) + 1442695040888963407) = h';go_quiet (fail);go_wp2_with fail;have hx := Uh (bits BinOp.xor IntKind.i64 (h' / 8589934592) (h' / 35184372088832));generalize bits BinOp.and IntKind.i64 (bits BinOp.xor IntKind.i64 (h' / 8589934592) (h' / 35184372088832)) 255 = x at *;obtain ⟨hx0, hx1⟩ := hx;go_quiet (fail);exact Ka93):P:=h
theorem ajE.Ka93(h:P:=by
 go_wp2
 go_ret;refine ⟨x, rfl, hx0, hx1, ?_, ?_⟩
 · have := Mh (h' := h') (ah HB) hil hlen (ah D9);first | exact this | exact this.drewN
 · first | exact Keeps.set _ | exact (Keeps.set _).drewN | exact (Keeps.set _).drewN.drewN):P:=h
theorem ajF.Ka93(h:P:=by
 go_wp2_with fail;go_quiet (fail);have hy := Uh (x + z);generalize bits BinOp.and IntKind.i64 (x + z) 255 = y at *;obtain ⟨hy0, hy1⟩ := hy;go_wp2
 go_ret;refine ⟨y, rfl, hy0, hy1, ?_, ?_⟩
 · have := PO (i' := i + 1) (h' := h') (ah HB) (by omega) hlen (ah D9);simp only [Int.natCast_add, Int.natCast_one] at this;first | exact this | exact this.drewN
 · first | exact ((Keeps.set _).trans (Keeps.set _)) | exact ((Keeps.set _).trans (Keeps.set _)).drewN):P:=h
theorem aqj(h:P:=by
 have hTi:∀j,j < 3→∃u,wc.cell? ⟨G.s,i*3+j,none⟩=some u∧wc.frozen? ⟨G.s,i*3+j,none⟩=false:=fun j hj=>⟨_,(hcT j hj).1.trans (List.getElem?_eq_getElem (by rw [bC];exact hj)),(hcT j hj).2⟩
 obtain⟨v0,y0,x0⟩:=hTi 0 (by omega);obtain⟨v1,y1,x1⟩:=hTi 1 (by omega);obtain⟨v2,y2,x2⟩:=hTi 2 (by omega);rw [Nat.add_zero] at y0 x0;exact Ka94):P:=h
theorem ajG.Ka94(h:P:=by
 clear hTi hcT hrT hT hlT T arW FI hown2 Zo RY Zu Si YV NI Zn YX Zh Xv;have avI:G.s < wc.heap.size:=by omega
 obtain⟨c0,c1,c2,c3,c4,c5,c6,c7,c8⟩:=nine NV;obtain⟨s40,s41,s42⟩:=yX Sj;have hnl:=aA NV;have arY:=aA Sj;have arz:Hid ((jy (aQ s0 mL) mI).length=(aQ s0 mL).length+1):=Uy;clear Uy;go_upto_region 27 with fail;refine wp_at (fun W12 adN=>?_)
 have afe:Hid (NQ W12 B (bn (bn n (n.seen.set i ⟨mF,bY s0 mL,aQ s0 mL⟩)) ((n.seen.set i ⟨mF,bY s0 mL,aQ s0 mL⟩).set i ⟨mF,bY s0 mL,jy (aQ s0 mL) mI⟩)) (⟨a_k,(some ⟨gp,0,none⟩),dP,(some ⟨G.s,0,none⟩),fA,aK,bq,aO,aL,aT⟩:bQ) ⟨G.k,G.p,G.o,G.s,G.r,jQ (jQ G.i i gi) i g2⟩ (rH g2 (jy (aQ s0 mL) mI) (rH gi (aQ s0 mL) (newC w.heap.size 9 c)))):=by
  rw [adN,←ah arz];exact HNP
 have Ms:aC [G.s] wc W12:=by
  rw [adN];exact aM [.int .i64 mF,.int .i64 (bY s0 mL),.slice (some ⟨g2,0,none⟩) ((aQ s0 mL).length+1) cq2] wc (i*3)
 have Zp:=hide (Ms.obj NV (fun hx=>by simp at hx;omega));have nW:=hide (Ms.obj Zv (fun hx=>by simp at hx;omega));have aeR:=hide (Ms.obj YW (fun hx=>by simp at hx;omega));have aeU:=hide (YZ.trans (Ms.below (B:=B) (fun x hx=>by simp at hx;omega) (by omega)));have ae6:=hide (Apart.keeps (c:=c) Zi (by omega) Ms (fun x hx=>by have:x=G.s:=(by simpa using hx);rw [this];right;omega));have asr:=hide (afh.keeps Ms (fun x hx=>by simp at hx;omega));have ash:Hid (∀x,x < w.heap.size→6 < c x→rH g2 (jy (aQ s0 mL) mI) (rH gi (aQ s0 mL) (newC w.heap.size 9 c)) x=9):=fun x hx h=>by rw [rV (fun hm=>by have:=(fD hm).1;omega)];exact HCO x hx h
 have aeZ:Hid (∀x,w.heap.size≤x→x≠gi→x≠g2→rH g2 (jy (aQ s0 mL) mI) (rH gi (aQ s0 mL) (newC w.heap.size 9 c)) x=9):=fun x hx h h'=>by rw [rV (fun hm=>h' (fD hm).1)];exact Ac x hx h
 clear adN Ms HNP y0 y1 y2 x0 x1 x2 s40 s41 s42 c0 c1 c2 c3 c4 c5 c6 c7 c8 hnl arY NV Zv YW YZ Zi afh Sj R4 HW2;obtain⟨c0,c1,c2,c3,c4,c5,c6,c7,c8⟩:=nine Zp;obtain⟨d0,d1,d2,d3,d4,d5,d6,d7,d8⟩:=nine nW;have f0:=aj nW 0;have f1:=aj nW 1;have f2:=aj nW 2;have f3:=aj nW 3;have f4:=aj nW 4;have f5:=aj nW 5;have f6:=aj nW 6;have f7:=aj nW 7;have f8:=aj nW 8;have hnl:=aA Zp;have hrl:=aA nW;go_wp2_with fail;refine aR (fun W' hW'=>?_)
 have e4:W'.heap[w.heap.size+2]?=some (.cells #[.int .i64 n.id,.int .i64 n.par,.slice a_k n.kids.length aK,.int .i64 n.next,.slice av RL.length cv,.slice dP n.out.length aO,.slice (some ⟨G.s,0,none⟩) n.seen.length aL,.int .i64 n.old,.slice fA n.reqs.length aT] 30 (0,0)):=by
  rw [hW'];exact GR.setW_blk [.int .i64 n.id,.int .i64 n.par,.slice a_k n.kids.length aK,.int .i64 n.next,.slice av RL.length cv,.slice dP n.out.length aO,.slice (some ⟨G.s,0,none⟩) n.seen.length aL,.int .i64 n.old,.slice fA n.reqs.length aT] (o:=0) (xs:=[.int .i64 0,.int .i64 0,.slice none 0 0,.int .i64 0,.slice none 0 0,.slice none 0 0,.slice none 0 0,.int .i64 0,.slice none 0 0]) nW
 have fu:aC [w.heap.size+2] W12 W':=by
  rw [hW'];exact aM [.int .i64 n.id,.int .i64 n.par,.slice a_k n.kids.length aK,.int .i64 n.next,.slice av RL.length cv,.slice dP n.out.length aO,.slice (some ⟨G.s,0,none⟩) n.seen.length aL,.int .i64 n.old,.slice fA n.reqs.length aT] W12 0
 have UQ:w.heap.size+2≠gi:=by omega
 have Pm:=hide (afe.kc (k:=9) (KC.keeps fu (fun x hx=>by have:x=w.heap.size+2:=(by simpa using hx);rw [this];exact aeZ _ (by omega) UQ (by omega))) (by omega))
 have HAT:Hid (∀W'',Out c w W' W''→RM W'' (⟨a_k,av,dP,(some ⟨G.s,0,none⟩),fA,aK,cv,aO,aL,aT⟩:bQ) (bn (setPu n RL) (n.seen.set i ⟨mF,bY s0 mL,jy (aQ s0 mL) mI⟩))):=fun W'' ho=>by
  obtain⟨F,hk,hF⟩:=ho
  have hold:=(Pm.kc (k:=9) (KC.keeps hk (fun x hx=>ash x (hF x hx).1 (hF x hx).2)) (by omega))
  have ho:Out c w W' W'':=⟨F,hk,hF⟩
  have hc9:∀g,av.map (fun y=>y.block)=some g→0 < RL.length→rH g2 (jy (aQ s0 mL) mI) (rH gi (aQ s0 mL) (newC w.heap.size 9 c)) g=9:=fun g hg hp=>by
   have h1:=ah Il g hg hp
   exact aeZ g (by omega) (by omega) (by omega)
  refine NQ.put hold hold (bn (setPu n RL) (n.seen.set i ⟨mF,bY s0 mL,jy (aQ s0 mL) mI⟩)) (⟨a_k,av,dP,(some ⟨G.s,0,none⟩),fA,aK,cv,aO,aL,aT⟩:bQ) rfl (by simp only[bn,List.set_set]) rfl rfl ((asr.keeps fu (fun x hx=>by simp at hx;omega)).out (by omega) ho) (fun g hg hp=> .inr (by have h3:=hc9 g hg hp;omega)) hold.o (fun y hy=> .inl (hold.co y hy)) hold.r (fun y hy=> .inl (hold.cr y hy)) (fun g hg hp _=>⟨fun e=>?_,fun e=>?_⟩) (fun x hx h6=>by have:=hold.co x hx;omega)
  ·have h1:=hold.co g e;have h2:=hc9 g hg hp;omega
  ·have h1:=hold.cr g e;have h2:=hc9 g hg hp;omega
 have Cr:Hid (∀W'',Out c w W' W''→GR.At je 7 W'' (some ⟨ab,0,none⟩) [⟨2,n.id,mF,mI,0,ByteArray.empty,0⟩]):=fun W'' ho j hj=>L9 (fu.obj aeR (fun hm=>by simp at hm;omega)) ho (by omega) j hj
 have lH:Hid (Below B w W'):=aeU.trans (fu.below (fun x hx=>by have:x=w.heap.size+2:=(by simpa using hx);omega) (by have h1:=aA nW;omega));have qg:=hide (Apart.keeps (c:=c) ae6 (by have h1:=aA nW;omega) fu (fun x hx=>by have:x=w.heap.size+2:=(by simpa using hx);omega));obtain⟨x0,x1,x2,x3,x4,x5,x6,x7,x8⟩:=nine e4;clear hW' e4 fu
 first
  |exact bodyPost_ret (v:= .tuple #[.agg #[.int .i64 n.id,.int .i64 n.par,.slice a_k n.kids.length aK,.int .i64 n.next,.slice av RL.length cv,.slice dP n.out.length aO,.slice (some ⟨G.s,0,none⟩) n.seen.length aL,.int .i64 n.old,.slice fA n.reqs.length aT],.slice (some ⟨ab,0,none⟩) 1 1,.int .i64 0]) (by simp[results,Tryz.results97,go_sem,x0,x1,x2,x3,x4,x5,x6,x7,x8]) rfl ⟨(⟨a_k,av,dP,(some ⟨G.s,0,none⟩),fA,aK,cv,aO,aL,aT⟩:bQ),(some ⟨ab,0,none⟩),⟨1,by simp[fU,fO,bn,setPu]⟩,HAT,Cr,lH,qg⟩
  |exact bodyPost_ret (v:= .tuple #[.agg #[.int .i64 n.id,.int .i64 n.par,.slice a_k n.kids.length aK,.int .i64 n.next,.slice av RL.length cv,.slice dP n.out.length aO,.slice (some ⟨G.s,0,none⟩) n.seen.length aL,.int .i64 n.old,.slice fA n.reqs.length aT],.slice (some ⟨ab,0,none⟩) 1 1,.int .i64 0]) (by simp[results,Tryz.results97,go_sem,x0,x1,x2,x3,x4,x5,x6,x7,x8]) rfl ⟨(⟨a_k,av,dP,(some ⟨G.s,0,none⟩),fA,aK,cv,aO,aL,aT⟩:bQ),(some ⟨ab,0,none⟩),1,by simp[fU,fO,bn,setPu],HAT,Cr,lH,qg⟩):P:=h
theorem ajH.Ka94(h:P:=by
 clear hTi hcT hrT hT hlT T ru hb4 acU kE Pj kH HB3 afd afq XC;have avH:G.s < wc.heap.size:=by omega
 obtain⟨c0,c1,c2,c3,c4,c5,c6,c7,c8⟩:=nine yc;obtain⟨s40,s41,s42⟩:=yX Sk;have sf:=aj Sk 2;have hnl:=aA yc;have hne1:sb≠G.s:=by omega
 have hne2:G.s≠sb:=by omega
 go_upto_region 15 with fail;refine wp_at (fun W6 Rk=>?_);exact Ka13):P:=h
theorem adk(h:P:=by
 (refine tkB ad7 (fun K hK=>?_);go_simp;first|refine hK _ ?_|(apply Exists.intro;refine⟨fun _=>?_,hK _ ?_⟩;rfl);clear hK K)
 refine kK ?_;refine qU (by kernel_rfl) (fun z hz=>?_);have NH:=hide (Ph.trans (hz.mono Ph.size));have ZC:=hide (GR.own_below Py hz);exact Ka95):P:=h
theorem ajI.Ka95(h:P:=by
 have hsz:qY.heap.size≤z.heap.size:=NH.size;clear hz;have CG:=hide (show z.heap[sb]?=some (.cells #[.int .i64 mF,.int .i64 (bY s0 mL),.slice (some ⟨gi,0,none⟩) (aQ s0 mL).length Jc] 57 (0,0)) by rw [(ah NH).block _ arX];exact Si);obtain⟨_,_,kc⟩:=yX CG;have kf:=aj CG 2;refine aF 14 rfl (by kernel_rfl) (by rfl) ?_;go_simp;refine wpAny_done (by kernel_rfl) ?_;go_simp;go_wp2_with fail;go_meet
 case rel=>
  rcases ZC.2 with⟨_,hn⟩|⟨g,cap,cur,hv,hbg,_⟩
  ·omega
  ·simp only[Value.slice.injEq] at hv;obtain⟨rfl,_,_⟩:=hv;have h2:=ah ZC;rw [show pos+1+((aQ s0 mL).length - pos)=(aQ s0 mL).length+1 by omega] at h2;refine⟨g,WR,hbg,?_,?_,(aC.of_below NH).trans (aC.set _)⟩
   ·rw [ah RA];rw [List.append_assoc] at h2;refine VN h2 (aC.set _) (fun x hx hm=>?_);simp[Value.ownBlock] at hx;simp at hm;omega
   ·have h:=bg CG 2 (.slice (some ⟨g,0,none⟩) (pos+1+((aQ s0 mL).length - pos)) WR);rw [show pos+1+((aQ s0 mL).length - pos)=(aQ s0 mL).length+1 by omega] at h ⊢;exact h):P:=h
theorem ajJ.Ka95(h:P:=by
 have hsz:wc.heap.size≤z.heap.size:=NH.size;clear hz;have HNz:Hid (z.heap[w.heap.size]?=some (.cells #[.int .i64 n.id,.int .i64 n.par,.slice a_k n.kids.length aK,.int .i64 n.next,.slice (some ⟨gp,0,none⟩) n.pu.length bq,.slice dP n.out.length aO,.slice dS n.seen.length aL,.int .i64 n.old,.slice (some ⟨gr,0,none⟩) n.reqs.length aT] 30 (0,0))):=by unfold Hid;rw [(ah NH).block _ hnl];exact zL
 have HRz:Hid (z.heap[w.heap.size+2]?=some (.cells iV 30 (0,0))):=by unfold Hid;rw [(ah NH).block _ (aA (ah vP))];exact vP
 have HQz:Hid (z.heap[W1.heap.size]?=some (.cells #[.int .i64 no,.string k,.int .i64 nn,.int .i64 1] 43 (0,0))):=by unfold Hid;rw [(ah NH).block _ Jp];exact Pt
 open apa in exact abo):P:=h
theorem ajK.Ka95(h:P:=by
 have hsz:wc.heap.size≤z.heap.size:=NH.size;clear hz;have HNz:Hid (z.heap[w.heap.size]?=some (.cells #[.int .i64 n.id,.int .i64 n.par,.slice a_k n.kids.length aK,.int .i64 n.next,.slice av RL.length cv,.slice dP n.out.length aO,.slice dS n.seen.length aL,.int .i64 n.old,.slice (some ⟨gr,0,none⟩) n.reqs.length aT] 30 (0,0))):=by unfold Hid;rw [(ah NH).block _ hnl];exact zL
 have HRz:Hid (z.heap[w.heap.size+2]?=some (.cells iV 30 (0,0))):=by unfold Hid;rw [(ah NH).block _ (aA (ah vP))];exact vP
 have HQz:Hid (z.heap[W1.heap.size]?=some (.cells #[.int .i64 no,.string k,.int .i64 nn,.int .i64 0] 43 (0,0))):=by unfold Hid;rw [(ah NH).block _ Jp];exact Pt
 open ao9 in exact abo):P:=h
theorem adl(h:P:=by
 refine wp_at (fun W0 hW0=>?_);have HB0:Hid (W0.heap[w.heap.size]?=some (.cells (fO ⟨id,par,kids,next,pu,out,seen,old,reqs⟩ ⟨ak,ap,ao,as',ar,ck,cp,co,cs,cr⟩) 30 (0,0))):=by rw [hW0];exact kR
 have Ig:Hid (Below w.heap.size w W0):=by rw [hW0];exact ay w _
 clear hW0 kR;exact Ka96):P:=h
theorem ajL.Ka96(h:P:=by
 obtain⟨c0,c1,c2,c3,c4,c5,c6,c7,c8⟩:=nine HB0;open an4 in exact aaW):P:=h
theorem ajM.Ka96(h:P:=by
 obtain⟨bb,hbb⟩:∃bb,(!(PL&&PS&&TD&&eU next&&decide (out.length≤40)&&nS old&&decide (reqs.length≤30)))=bb:=⟨_,rfl⟩;have eP:=hide hbb;clear hbb;obtain⟨c0,c1,c2,c3,c4,c5,c6,c7,c8⟩:=nine HB0;go_cut [44] (fun r wx=>r= .bool bb∧wx.heap[w.heap.size]?=some (.cells (fO ⟨id,par,kids,next,pu,out,seen,old,reqs⟩ ⟨ak,ap,ao,as',ar,ck,cp,co,cs,cr⟩) 30 (0,0))∧Below w.heap.size w wx)
 case first=>
  open an3 in exact aaW
 case rest=>
  obtain⟨rfl,hblk,hbel⟩:=hcut;have HB1:=hide hblk;have RH:=hide hbel;clear hblk hbel c0 c1 c2 c3 c4 c5 c6 c7 c8 Il WI HTO HB0 Ig;cases hbv:bb
  case' true=>
   have HP:Hid (TT=false):=by
    have h:=ah eP;rw [hbv] at h;rw [ah HD];generalize (PL&&PS&&TD&&eU next&&decide (out.length≤40)&&nS old&&decide (reqs.length≤30))=X at *;cases X
    ·rfl
    ·cases h
   clear eP HD
   subst hbv
   go_wp2_with fail
   go_ret
   exact⟨aD HP.symm,RH⟩
  have HF:Hid (eU next=true∧nS old=true∧TT=(gH OT (fun s t=>gU s.i t.i) out&&gH RQ (fun s t=>gU s.no t.no) reqs)):=by
   have h:=ah eP;rw [hbv] at h;rw [ah HD];cases h4:eU next<;>cases h6:nS old<;>rw [h4,h6] at h
   all_goals first
    |(simp at h;done)
    |skip
   refine⟨rfl,rfl,?_⟩;generalize (PL&&PS&&TD&&true&&decide (out.length≤40)&&true&&decide (reqs.length≤30))=X at *;cases X
   ·cases h
   ·rfl
  clear eP HD;subst hbv;obtain⟨hn1,ho1,hTT⟩:=ah HF;have HTT:=hide hTT;have hn2:1≤next∧next≤1000000000:=of_decide_eq_true hn1;have ho2:0≤old∧old≤1000000000:=of_decide_eq_true ho1;obtain⟨hn3,hn4⟩:=hn2;obtain⟨ho3,ho4⟩:=ho2;clear hn1 ho1 hTT HF;have um:=hide (fun k h=>mY OT (fun s t=>gU s.i t.i) out k h);have zH:=hide (oN OT (fun s t=>gU s.i t.i) out);have Ac:=hide (rU OT (fun s t=>gU s.i t.i) out);have HDB:=hide (fun k h=>mY RQ (fun s t=>gU s.no t.no) reqs k h);have HDF:=hide (oN RQ (fun s t=>gU s.no t.no) reqs);have HDN:=hide (rU RQ (fun s t=>gU s.no t.no) reqs);generalize (fun s t:jH=>gU s.i t.i)=RO at *;generalize (fun s t:Rq=>gU s.no t.no)=RR at *;go_wp2_with fail;go_loopw [3] (fun i wr=>∃k:Nat,k≤out.length∧i= .int .i64 k∧gH OT RO (out.take k)=true∧wr.heap[w.heap.size]?=some (.cells (fO ⟨id,par,kids,next,pu,out,seen,old,reqs⟩ ⟨ak,ap,ao,as',ar,ck,cp,co,cs,cr⟩) 30 (0,0))∧Below w.heap.size w wr) (fun i _=>out.length - (intOf i).toNat)
  case atStart=>exact⟨0,Nat.zero_le _,rfl,rfl,HB1,RH⟩
  case round=>
   open ak0 in exact Oo):P:=h
theorem ajN.Ka96(h:P:=by
 obtain⟨al,hal⟩:∃al:Int,(kids.length:Int)+(if 0≤par then 1 else 0)=al:=⟨_,rfl⟩;rw [hal] at HD;go_cut [3] (fun r wx=>r= .int .i64 al∧wx=W0)
 case first=>
  by_cases hp:0≤par
  ·rw [if_pos hp] at hal;have HAL:=hide hal;clear hal;go_wp2_with fail;go_meet
   case rel=>exact⟨by rw [←ah HAL],rfl⟩
  ·rw [if_neg hp] at hal;have HAL:=hide hal;clear hal;go_wp2_with fail;go_meet
   case rel=>exact⟨by rw [←ah HAL,Int.add_zero],rfl⟩
 case rest=>
  obtain⟨rfl,rfl⟩:=hcut;clear hal;obtain⟨c0,c1,c2,c3,c4,c5,c6,_⟩:=nine HB0;by_cases hlen:(seen.length:Int)=al
  case' neg=>
   have hbn:((seen.length:Int) != al)=true:=by simpa using hlen
   have HP:Hid (TT=false):=by rw [ah HD,decide_eq_false hlen];rfl
   clear hlen HD um zH Ac Hq HPP HRR
   go_wp2_with fail
   go_ret
   exact⟨aD HP.symm,Ig⟩
  have hbn:((seen.length:Int) != al)=false:=by simpa using hlen
  have mg:Hid (TT=gH PP RR seen):=by rw [ah HD,decide_eq_true hlen];rfl
  clear hlen HD;go_wp2_with fail;go_loopw [4] (fun i wr=>∃k:Nat,k≤seen.length∧i= .int .i64 k∧gH PP RR (seen.take k)=true∧wr.heap[w.heap.size]?=some (.cells (fO ⟨id,par,kids,next,pu,out,seen,old,reqs⟩ ⟨ak,ap,ao,as',ar,ck,cp,co,cs,cr⟩) 30 (0,0))∧Below w.heap.size w wr) (fun i _=>seen.length - (intOf i).toNat)
  case atStart=>exact⟨0,Nat.zero_le _,rfl,rfl,HB0,Ig⟩
  case round=>
   open akZ in exact Oo):P:=h
theorem aqk(h:P:=by
 go_simp;refine (gT c 30 _ (ah En).cur (by omega) (by omega)).mono ?_;rintro e w4 ⟨x, rfl, hx0, hx1, hc4, hk4⟩;have uM := hide ((ah En).draw hc4 hk4);clear hc4 hk4;obtain ⟨d0, d1, d2, d3, d4, d5, d6, d7, d8⟩ := nine (ah uM).own;have hx2 : IntKind.i64.wrap (1 + x) = 1 + x := IntWalk.i64_in _ ⟨by omega, by omega⟩;go_simp;refine eO 4 rfl (by kernel_rfl) (by kernel_rfl) (by kernel_rfl) (fun _ _ _ _ h => h) (fun K hK => ?_);exact Ka97):P:=h
theorem ajO.Ka97(h:P:=by
 open asI in exact Ya3):P:=h
theorem ajP.Ka97(h:P:=by
 open asJ in exact Ya3):P:=h
theorem adn(h:P:=by
 have HW1:=hide (h.step (ay w (.cells #[.int .i64 mK,.int .i64 mF,.int .i64 mT,.int .i64 mI,.int .i64 mL,.string mk,.int .i64 mN] 32)));have rG:=hide (heap_alloc_new w (.cells #[.int .i64 mK,.int .i64 mF,.int .i64 mT,.int .i64 mI,.int .i64 mL,.string mk,.int .i64 mN] 32));exact Ka98):P:=h
end Go.Proofs.YtfmdndhliinhpaaGreatDoor
