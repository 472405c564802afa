/- Parts. -/
import Derived.Test.YtdlokncalhopoaaGreatPy1
import Derived.Deep.QuietTactic
import Derived.Deep.RegionWith
import Derived.BigQuiet
import Derived.Laws.Cover1
import Derived.Deep.RegionHeld
namespace Go.Proofs.YtdlokncalhopoaaGreat
set_option maxHeartbeats 4000000
set_option maxRecDepth 100000
open Go.RowKit
open Mth
abbrev PursesAt (w:World) (a:Option Addr) (l:List Pu):Prop:=GR.At encP 4 w a l
theorem PursesAt.four {w:World} {a:Option Addr} {l:List Pu} (h:PursesAt w a l) (i:Nat) (hi:i < l.length):∃g off,a=some ⟨g,off,none⟩∧g < w.heap.size∧w.cell? ⟨g,off+i*4,none⟩=some (.string l[i].k)∧w.cell? ⟨g,off+i*4+1,none⟩=some (.int .i64 l[i].m)∧w.cell? ⟨g,off+i*4+2,none⟩=some (.int .i64 l[i].f)∧w.cell? ⟨g,off+i*4+3,none⟩=some (.int .i64 l[i].s):=by
 obtain⟨g,off,e,hg,hc⟩:=h i hi
 refine⟨g,off,e,hg,?_,?_,?_,?_⟩
 ·simpa using hc 0 (by omega)
 ·simpa [Nat.add_assoc] using hc 1 (by omega)
 ·simpa [Nat.add_assoc] using hc 2 (by omega)
 ·simpa [Nat.add_assoc] using hc 3 (by omega)
theorem qKey (s:ByteArray) (b:Bool) (hs:s.size≤maxLen) (hb:keyOk s.data.toList=b) (W:World) (n:Nat):Calls Tryz.prog 23 #[.string s] (W.drewN n) fun e w''=>e= .returned (.bool b)∧∃m,w''=W.drewN m:=by
 rw [←hb]
 exact(specKeyOk s _ hs).mono fun e w' ⟨he,hw⟩=>⟨he,n,hw.symm⟩
theorem qAm (x:Int) (b:Bool) (hb:decide (Inn x 0 1000000000)=b) (W:World) (n:Nat):Calls Tryz.prog 20 #[.int .i64 x] (W.drewN n) fun e w''=>e= .returned (.bool b)∧∃m,w''=W.drewN m:=by
 rw [←hb]
 exact(l01Amount x _).mono fun e w' ⟨he,hw⟩=>⟨he,n,hw.symm⟩
theorem specPursesOk (a:Option Addr) (cap:Nat) (l:List Pu) (w:World) (hl:l.length≤1048600) (hk:∀p∈l,p.k.size≤maxLen) (ha:PursesAt w a l):
 Calls Tryz.prog 17 #[.slice a l.length cap] w fun e w'=>e= .returned (.bool (psOk l))∧Below w.heap.size w w':=by
 have HA:=hide ha
 have HK:=hide hk
 clear ha hk
 go_enter Tryz.func17,Tryz.ntmps17
 go_wp2_with fail
 go_loopw [3] (fun i wr=>∃k:Nat,k≤l.length∧i= .int .i64 k∧(List.range k).all (okAt l)=true∧Below w.heap.size w wr) (fun i _=>l.length - (intOf i).toNat)
 case atStart=>exact⟨0,Nat.zero_le _,rfl,rfl,Below.refl _ _⟩
 case round=>
  obtain⟨k,hk,rfl,hall,hbel⟩:=hrel
  have HBL:=hide hbel
  have HALL:=hide hall
  clear hall hbel
  by_cases hlt:k < l.length
  ·have hks:=unhide HK l[k] (List.getElem_mem hlt)
   have hat:okAt l k=(puOk l[k]&&(k == 0|| !sle l[k].k (l.getD (k - 1) default).k)):=by unfold okAt;rw [getD_at l k hlt]
   cases k with
   |zero=>
    obtain⟨g,off,rfl,hgw,c0,c1,c2,c3⟩:=PursesAt.four (GR.At.below (unhide HA) (unhide HBL)) 0 hlt
    simp only[Nat.zero_mul,Nat.add_zero] at c0 c1 c2 c3
    have hgt:decide ((0:Int) < ((0:Nat):Int))=false:=rfl
    have HOKA:=hide hat
    have HNX:=hide (all_range_succ (okAt l) 0)
    clear hat
    generalize l[0]=pu at *
    obtain⟨pk,pm,pf,ps⟩:=pu
    dsimp only at c0 c1 c2 c3 hks
    cases hkb:keyOk pk.data.toList
    ·have HB:=hide hkb
     have HBAD:=hide (psOk_bad hlt (show okAt l 0=false by rw [unhide HOKA];simp[puOk,unhide HB]))
     clear HOKA HNX
     have hkb':=unhide HB
     go_wp2_with fail
     refine wp_region_quiet_lit (by kernel_rfl) (by kernel_rfl) ?_
     repeat (first|go_big_quiet_step ((first|(go_at_call 23;exact qKey _ _ hks hkb' _ _)|(go_at_call_of 20 (IntKind.i64.wrap (pf+ps));exact qAm _ _ g4 _ _)|(go_at_call_of 20 (pf+ps);exact qAm _ _ g5 _ _)|(go_at_call_of 20 pm;exact qAm _ _ g1 _ _)|(go_at_call_of 20 pf;exact qAm _ _ g2 _ _)|(go_at_call_of 20 ps;exact qAm _ _ g3 _ _)))|quiet_step ((first|(go_at_call 23;exact qKey _ _ hks hkb' _ _)|(go_at_call_of 20 (IntKind.i64.wrap (pf+ps));exact qAm _ _ g4 _ _)|(go_at_call_of 20 (pf+ps);exact qAm _ _ g5 _ _)|(go_at_call_of 20 pm;exact qAm _ _ g1 _ _)|(go_at_call_of 20 pf;exact qAm _ _ g2 _ _)|(go_at_call_of 20 ps;exact qAm _ _ g3 _ _))))
     refine wpQuiet_nil ?_
     intro _ hw'
     obtain⟨nq,hw''⟩:=hw'
     subst hw''
     go_wp2_with fail
     go_ret
     exact⟨ret_bool (unhide HBAD).symm,((unhide HBL).alloc (unhide HBL).size _).trans ⟨rfl,rfl,rfl,Nat.le_refl _,fun _ _=>rfl⟩⟩
    have hkb':=hkb
    by_cases h1:0≤pm∧pm≤1000000000
    case' neg=>
     have hA:amB pm=false:=decide_eq_false h1
     have g1:decide (Inn pm 0 1000000000)=false:=decide_eq_false h1
     have HBAD:=hide (psOk_bad hlt (show okAt l 0=false by rw [unhide HOKA];simp[puOk,hA]))
     clear HOKA HNX hA
     go_wp2_with fail
     refine wp_region_quiet_lit (by kernel_rfl) (by kernel_rfl) ?_
     repeat (first|go_big_quiet_step ((first|(go_at_call 23;exact qKey _ _ hks hkb' _ _)|(go_at_call_of 20 (IntKind.i64.wrap (pf+ps));exact qAm _ _ g4 _ _)|(go_at_call_of 20 (pf+ps);exact qAm _ _ g5 _ _)|(go_at_call_of 20 pm;exact qAm _ _ g1 _ _)|(go_at_call_of 20 pf;exact qAm _ _ g2 _ _)|(go_at_call_of 20 ps;exact qAm _ _ g3 _ _)))|quiet_step ((first|(go_at_call 23;exact qKey _ _ hks hkb' _ _)|(go_at_call_of 20 (IntKind.i64.wrap (pf+ps));exact qAm _ _ g4 _ _)|(go_at_call_of 20 (pf+ps);exact qAm _ _ g5 _ _)|(go_at_call_of 20 pm;exact qAm _ _ g1 _ _)|(go_at_call_of 20 pf;exact qAm _ _ g2 _ _)|(go_at_call_of 20 ps;exact qAm _ _ g3 _ _))))
     refine wpQuiet_nil ?_
     intro _ hw'
     obtain⟨nq,hw''⟩:=hw'
     subst hw''
     go_wp2_with fail
     go_ret
     exact⟨ret_bool (unhide HBAD).symm,((unhide HBL).alloc (unhide HBL).size _).trans ⟨rfl,rfl,rfl,Nat.le_refl _,fun _ _=>rfl⟩⟩
    have g1:decide (Inn pm 0 1000000000)=true:=decide_eq_true h1
    have hA1:amB pm=true:=decide_eq_true h1
    by_cases h2:0≤pf∧pf≤1000000000
    case' neg=>
     have hA:amB pf=false:=decide_eq_false h2
     have g2:decide (Inn pf 0 1000000000)=false:=decide_eq_false h2
     have HBAD:=hide (psOk_bad hlt (show okAt l 0=false by rw [unhide HOKA];simp[puOk,hA]))
     clear HOKA HNX hA
     go_wp2_with fail
     refine wp_region_quiet_lit (by kernel_rfl) (by kernel_rfl) ?_
     repeat (first|go_big_quiet_step ((first|(go_at_call 23;exact qKey _ _ hks hkb' _ _)|(go_at_call_of 20 (IntKind.i64.wrap (pf+ps));exact qAm _ _ g4 _ _)|(go_at_call_of 20 (pf+ps);exact qAm _ _ g5 _ _)|(go_at_call_of 20 pm;exact qAm _ _ g1 _ _)|(go_at_call_of 20 pf;exact qAm _ _ g2 _ _)|(go_at_call_of 20 ps;exact qAm _ _ g3 _ _)))|quiet_step ((first|(go_at_call 23;exact qKey _ _ hks hkb' _ _)|(go_at_call_of 20 (IntKind.i64.wrap (pf+ps));exact qAm _ _ g4 _ _)|(go_at_call_of 20 (pf+ps);exact qAm _ _ g5 _ _)|(go_at_call_of 20 pm;exact qAm _ _ g1 _ _)|(go_at_call_of 20 pf;exact qAm _ _ g2 _ _)|(go_at_call_of 20 ps;exact qAm _ _ g3 _ _))))
     refine wpQuiet_nil ?_
     intro _ hw'
     obtain⟨nq,hw''⟩:=hw'
     subst hw''
     go_wp2_with fail
     go_ret
     exact⟨ret_bool (unhide HBAD).symm,((unhide HBL).alloc (unhide HBL).size _).trans ⟨rfl,rfl,rfl,Nat.le_refl _,fun _ _=>rfl⟩⟩
    have g2:decide (Inn pf 0 1000000000)=true:=decide_eq_true h2
    have hA2:amB pf=true:=decide_eq_true h2
    by_cases h3:0≤ps∧ps≤1000000000
    case' neg=>
     have hA:amB ps=false:=decide_eq_false h3
     have g3:decide (Inn ps 0 1000000000)=false:=decide_eq_false h3
     have HBAD:=hide (psOk_bad hlt (show okAt l 0=false by rw [unhide HOKA];simp[puOk,hA]))
     clear HOKA HNX hA
     go_wp2_with fail
     refine wp_region_quiet_lit (by kernel_rfl) (by kernel_rfl) ?_
     repeat (first|go_big_quiet_step ((first|(go_at_call 23;exact qKey _ _ hks hkb' _ _)|(go_at_call_of 20 (IntKind.i64.wrap (pf+ps));exact qAm _ _ g4 _ _)|(go_at_call_of 20 (pf+ps);exact qAm _ _ g5 _ _)|(go_at_call_of 20 pm;exact qAm _ _ g1 _ _)|(go_at_call_of 20 pf;exact qAm _ _ g2 _ _)|(go_at_call_of 20 ps;exact qAm _ _ g3 _ _)))|quiet_step ((first|(go_at_call 23;exact qKey _ _ hks hkb' _ _)|(go_at_call_of 20 (IntKind.i64.wrap (pf+ps));exact qAm _ _ g4 _ _)|(go_at_call_of 20 (pf+ps);exact qAm _ _ g5 _ _)|(go_at_call_of 20 pm;exact qAm _ _ g1 _ _)|(go_at_call_of 20 pf;exact qAm _ _ g2 _ _)|(go_at_call_of 20 ps;exact qAm _ _ g3 _ _))))
     refine wpQuiet_nil ?_
     intro _ hw'
     obtain⟨nq,hw''⟩:=hw'
     subst hw''
     go_wp2_with fail
     go_ret
     exact⟨ret_bool (unhide HBAD).symm,((unhide HBL).alloc (unhide HBL).size _).trans ⟨rfl,rfl,rfl,Nat.le_refl _,fun _ _=>rfl⟩⟩
    have g3:decide (Inn ps 0 1000000000)=true:=decide_eq_true h3
    have hA3:amB ps=true:=decide_eq_true h3
    have e4:IntKind.i64.wrap (pf+ps)=pf+ps:=IntWalk.i64_in _ ⟨by omega,by omega⟩
    by_cases h4:0≤(pf+ps)∧(pf+ps)≤1000000000
    case' neg=>
     have hA:amB (pf+ps)=false:=decide_eq_false h4
     have g4:decide (Inn (pf+ps) 0 1000000000)=false:=decide_eq_false h4
     have g5:=g4
     rw [←e4] at g4
     have HBAD:=hide (psOk_bad hlt (show okAt l 0=false by rw [unhide HOKA];simp[puOk,hA]))
     clear HOKA HNX hA
     go_wp2_with fail
     refine wp_region_quiet_lit (by kernel_rfl) (by kernel_rfl) ?_
     repeat (first|go_big_quiet_step ((first|(go_at_call 23;exact qKey _ _ hks hkb' _ _)|(go_at_call_of 20 (IntKind.i64.wrap (pf+ps));exact qAm _ _ g4 _ _)|(go_at_call_of 20 (pf+ps);exact qAm _ _ g5 _ _)|(go_at_call_of 20 pm;exact qAm _ _ g1 _ _)|(go_at_call_of 20 pf;exact qAm _ _ g2 _ _)|(go_at_call_of 20 ps;exact qAm _ _ g3 _ _)))|quiet_step ((first|(go_at_call 23;exact qKey _ _ hks hkb' _ _)|(go_at_call_of 20 (IntKind.i64.wrap (pf+ps));exact qAm _ _ g4 _ _)|(go_at_call_of 20 (pf+ps);exact qAm _ _ g5 _ _)|(go_at_call_of 20 pm;exact qAm _ _ g1 _ _)|(go_at_call_of 20 pf;exact qAm _ _ g2 _ _)|(go_at_call_of 20 ps;exact qAm _ _ g3 _ _))))
     refine wpQuiet_nil ?_
     intro _ hw'
     obtain⟨nq,hw''⟩:=hw'
     subst hw''
     go_wp2_with fail
     go_ret
     exact⟨ret_bool (unhide HBAD).symm,((unhide HBL).alloc (unhide HBL).size _).trans ⟨rfl,rfl,rfl,Nat.le_refl _,fun _ _=>rfl⟩⟩
    have g4:decide (Inn (pf+ps) 0 1000000000)=true:=decide_eq_true h4
    have hA4:amB (pf+ps)=true:=decide_eq_true h4
    have g5:=g4
    rw [←e4] at g4
    have HGOOD:=hide (show okAt l 0=true by rw [unhide HOKA];simp[puOk,hkb,hA1,hA2,hA3,hA4])
    clear HOKA hA1 hA2 hA3 hA4
    go_wp2_with fail
    refine wp_region_quiet_lit (by kernel_rfl) (by kernel_rfl) ?_
    repeat (first|go_big_quiet_step ((first|(go_at_call 23;exact qKey _ _ hks hkb' _ _)|(go_at_call_of 20 (IntKind.i64.wrap (pf+ps));exact qAm _ _ g4 _ _)|(go_at_call_of 20 (pf+ps);exact qAm _ _ g5 _ _)|(go_at_call_of 20 pm;exact qAm _ _ g1 _ _)|(go_at_call_of 20 pf;exact qAm _ _ g2 _ _)|(go_at_call_of 20 ps;exact qAm _ _ g3 _ _)))|quiet_step ((first|(go_at_call 23;exact qKey _ _ hks hkb' _ _)|(go_at_call_of 20 (IntKind.i64.wrap (pf+ps));exact qAm _ _ g4 _ _)|(go_at_call_of 20 (pf+ps);exact qAm _ _ g5 _ _)|(go_at_call_of 20 pm;exact qAm _ _ g1 _ _)|(go_at_call_of 20 pf;exact qAm _ _ g2 _ _)|(go_at_call_of 20 ps;exact qAm _ _ g3 _ _))))
    refine wpQuiet_nil ?_
    intro _ hw'
    obtain⟨nq,hw''⟩:=hw'
    subst hw''
    go_wp2_with fail
    go_roundw
    case rel=>exact⟨0+1,by omega,by go_num,by rw [unhide HNX,unhide HALL,unhide HGOOD];rfl,((unhide HBL).alloc (unhide HBL).size _).trans ⟨rfl,rfl,rfl,Nat.le_refl _,fun _ _=>rfl⟩⟩
    case measure=>simp[intOf];omega
   |succ j=>
    obtain⟨g,off,rfl,hgw,c0,c1,c2,c3⟩:=PursesAt.four (GR.At.below (unhide HA) (unhide HBL)) (j+1) hlt
    obtain⟨g',off',e',_,d0,_,_,_⟩:=PursesAt.four (GR.At.below (unhide HA) (unhide HBL)) j (by omega)
    have eg:g=g'∧off=off':=by injection e' with e';injection e' with e1 e2;exact⟨e1,e2⟩
    obtain⟨rfl,rfl⟩:=eg
    have hgd:l.getD j default=l[j]:=getD_at l j (by omega)
    rw [show j+1 - 1=j from rfl,hgd] at hat
    have hgt:decide ((0:Int) < ((j:Int)+1))=true:=decide_eq_true (by omega)
    clear e' hgd
    generalize l[j].k=q at *
    have HOKA:=hide hat
    have HNX:=hide (all_range_succ (okAt l) (j+1))
    clear hat
    generalize l[j+1]=pu at *
    obtain⟨pk,pm,pf,ps⟩:=pu
    dsimp only at c0 c1 c2 c3 hks
    cases hkb:keyOk pk.data.toList
    ·have HB:=hide hkb
     have HBAD:=hide (psOk_bad hlt (show okAt l (j+1)=false by rw [unhide HOKA];simp[puOk,unhide HB]))
     clear HOKA HNX
     have hkb':=unhide HB
     go_wp2_with fail
     refine wp_region_quiet_lit (by kernel_rfl) (by kernel_rfl) ?_
     repeat (first|go_big_quiet_step ((first|(go_at_call 23;exact qKey _ _ hks hkb' _ _)|(go_at_call_of 20 (IntKind.i64.wrap (pf+ps));exact qAm _ _ g4 _ _)|(go_at_call_of 20 (pf+ps);exact qAm _ _ g5 _ _)|(go_at_call_of 20 pm;exact qAm _ _ g1 _ _)|(go_at_call_of 20 pf;exact qAm _ _ g2 _ _)|(go_at_call_of 20 ps;exact qAm _ _ g3 _ _)))|quiet_step ((first|(go_at_call 23;exact qKey _ _ hks hkb' _ _)|(go_at_call_of 20 (IntKind.i64.wrap (pf+ps));exact qAm _ _ g4 _ _)|(go_at_call_of 20 (pf+ps);exact qAm _ _ g5 _ _)|(go_at_call_of 20 pm;exact qAm _ _ g1 _ _)|(go_at_call_of 20 pf;exact qAm _ _ g2 _ _)|(go_at_call_of 20 ps;exact qAm _ _ g3 _ _))))
     refine wpQuiet_nil ?_
     intro _ hw'
     obtain⟨nq,hw''⟩:=hw'
     subst hw''
     go_wp2_with fail
     go_ret
     exact⟨ret_bool (unhide HBAD).symm,((unhide HBL).alloc (unhide HBL).size _).trans ⟨rfl,rfl,rfl,Nat.le_refl _,fun _ _=>rfl⟩⟩
    have hkb':=hkb
    cases hbl:Op.bytesLess pk.toList q.toList
    case' true=>
     have hsl:sle pk q=true:=by unfold sle;rw [hbl];rfl
     cases heq:pk.toList == q.toList
     ·have HBAD:=hide (psOk_bad hlt (show okAt l (j+1)=false by rw [unhide HOKA];simp[hsl]))
      clear HOKA HNX hsl
      go_wp2_with fail
      refine wp_region_quiet_lit (by kernel_rfl) (by kernel_rfl) ?_
      repeat (first|go_big_quiet_step ((first|(go_at_call 23;exact qKey _ _ hks hkb' _ _)|(go_at_call_of 20 (IntKind.i64.wrap (pf+ps));exact qAm _ _ g4 _ _)|(go_at_call_of 20 (pf+ps);exact qAm _ _ g5 _ _)|(go_at_call_of 20 pm;exact qAm _ _ g1 _ _)|(go_at_call_of 20 pf;exact qAm _ _ g2 _ _)|(go_at_call_of 20 ps;exact qAm _ _ g3 _ _)))|quiet_step ((first|(go_at_call 23;exact qKey _ _ hks hkb' _ _)|(go_at_call_of 20 (IntKind.i64.wrap (pf+ps));exact qAm _ _ g4 _ _)|(go_at_call_of 20 (pf+ps);exact qAm _ _ g5 _ _)|(go_at_call_of 20 pm;exact qAm _ _ g1 _ _)|(go_at_call_of 20 pf;exact qAm _ _ g2 _ _)|(go_at_call_of 20 ps;exact qAm _ _ g3 _ _))))
      refine wpQuiet_nil ?_
      intro _ hw'
      obtain⟨nq,hw''⟩:=hw'
      subst hw''
      go_wp2_with fail
      go_ret
      exact⟨ret_bool (unhide HBAD).symm,((unhide HBL).alloc (unhide HBL).size _).trans ⟨rfl,rfl,rfl,Nat.le_refl _,fun _ _=>rfl⟩⟩
     ·have HBAD:=hide (psOk_bad hlt (show okAt l (j+1)=false by rw [unhide HOKA];simp[hsl]))
      clear HOKA HNX hsl
      go_wp2_with fail
      refine wp_region_quiet_lit (by kernel_rfl) (by kernel_rfl) ?_
      repeat (first|go_big_quiet_step ((first|(go_at_call 23;exact qKey _ _ hks hkb' _ _)|(go_at_call_of 20 (IntKind.i64.wrap (pf+ps));exact qAm _ _ g4 _ _)|(go_at_call_of 20 (pf+ps);exact qAm _ _ g5 _ _)|(go_at_call_of 20 pm;exact qAm _ _ g1 _ _)|(go_at_call_of 20 pf;exact qAm _ _ g2 _ _)|(go_at_call_of 20 ps;exact qAm _ _ g3 _ _)))|quiet_step ((first|(go_at_call 23;exact qKey _ _ hks hkb' _ _)|(go_at_call_of 20 (IntKind.i64.wrap (pf+ps));exact qAm _ _ g4 _ _)|(go_at_call_of 20 (pf+ps);exact qAm _ _ g5 _ _)|(go_at_call_of 20 pm;exact qAm _ _ g1 _ _)|(go_at_call_of 20 pf;exact qAm _ _ g2 _ _)|(go_at_call_of 20 ps;exact qAm _ _ g3 _ _))))
      refine wpQuiet_nil ?_
      intro _ hw'
      obtain⟨nq,hw''⟩:=hw'
      subst hw''
      go_wp2_with fail
      go_ret
      exact⟨ret_bool (unhide HBAD).symm,((unhide HBL).alloc (unhide HBL).size _).trans ⟨rfl,rfl,rfl,Nat.le_refl _,fun _ _=>rfl⟩⟩
    cases heq:pk.toList == q.toList
    case' true=>
     have hsl:sle pk q=true:=by unfold sle;rw [hbl,heq];rfl
     have HBAD:=hide (psOk_bad hlt (show okAt l (j+1)=false by rw [unhide HOKA];simp[hsl]))
     clear HOKA HNX hsl
     go_wp2_with fail
     refine wp_region_quiet_lit (by kernel_rfl) (by kernel_rfl) ?_
     repeat (first|go_big_quiet_step ((first|(go_at_call 23;exact qKey _ _ hks hkb' _ _)|(go_at_call_of 20 (IntKind.i64.wrap (pf+ps));exact qAm _ _ g4 _ _)|(go_at_call_of 20 (pf+ps);exact qAm _ _ g5 _ _)|(go_at_call_of 20 pm;exact qAm _ _ g1 _ _)|(go_at_call_of 20 pf;exact qAm _ _ g2 _ _)|(go_at_call_of 20 ps;exact qAm _ _ g3 _ _)))|quiet_step ((first|(go_at_call 23;exact qKey _ _ hks hkb' _ _)|(go_at_call_of 20 (IntKind.i64.wrap (pf+ps));exact qAm _ _ g4 _ _)|(go_at_call_of 20 (pf+ps);exact qAm _ _ g5 _ _)|(go_at_call_of 20 pm;exact qAm _ _ g1 _ _)|(go_at_call_of 20 pf;exact qAm _ _ g2 _ _)|(go_at_call_of 20 ps;exact qAm _ _ g3 _ _))))
     refine wpQuiet_nil ?_
     intro _ hw'
     obtain⟨nq,hw''⟩:=hw'
     subst hw''
     go_wp2_with fail
     go_ret
     exact⟨ret_bool (unhide HBAD).symm,((unhide HBL).alloc (unhide HBL).size _).trans ⟨rfl,rfl,rfl,Nat.le_refl _,fun _ _=>rfl⟩⟩
    have hsl:Hid (sle pk q=false):=by unfold sle;rw [hbl,heq];rfl
    by_cases h1:0≤pm∧pm≤1000000000
    case' neg=>
     have hA:amB pm=false:=decide_eq_false h1
     have g1:decide (Inn pm 0 1000000000)=false:=decide_eq_false h1
     have HBAD:=hide (psOk_bad hlt (show okAt l (j+1)=false by rw [unhide HOKA];simp[puOk,hA]))
     clear HOKA HNX hA
     go_wp2_with fail
     refine wp_region_quiet_lit (by kernel_rfl) (by kernel_rfl) ?_
     repeat (first|go_big_quiet_step ((first|(go_at_call 23;exact qKey _ _ hks hkb' _ _)|(go_at_call_of 20 (IntKind.i64.wrap (pf+ps));exact qAm _ _ g4 _ _)|(go_at_call_of 20 (pf+ps);exact qAm _ _ g5 _ _)|(go_at_call_of 20 pm;exact qAm _ _ g1 _ _)|(go_at_call_of 20 pf;exact qAm _ _ g2 _ _)|(go_at_call_of 20 ps;exact qAm _ _ g3 _ _)))|quiet_step ((first|(go_at_call 23;exact qKey _ _ hks hkb' _ _)|(go_at_call_of 20 (IntKind.i64.wrap (pf+ps));exact qAm _ _ g4 _ _)|(go_at_call_of 20 (pf+ps);exact qAm _ _ g5 _ _)|(go_at_call_of 20 pm;exact qAm _ _ g1 _ _)|(go_at_call_of 20 pf;exact qAm _ _ g2 _ _)|(go_at_call_of 20 ps;exact qAm _ _ g3 _ _))))
     refine wpQuiet_nil ?_
     intro _ hw'
     obtain⟨nq,hw''⟩:=hw'
     subst hw''
     go_wp2_with fail
     go_ret
     exact⟨ret_bool (unhide HBAD).symm,((unhide HBL).alloc (unhide HBL).size _).trans ⟨rfl,rfl,rfl,Nat.le_refl _,fun _ _=>rfl⟩⟩
    have g1:decide (Inn pm 0 1000000000)=true:=decide_eq_true h1
    have hA1:amB pm=true:=decide_eq_true h1
    by_cases h2:0≤pf∧pf≤1000000000
    case' neg=>
     have hA:amB pf=false:=decide_eq_false h2
     have g2:decide (Inn pf 0 1000000000)=false:=decide_eq_false h2
     have HBAD:=hide (psOk_bad hlt (show okAt l (j+1)=false by rw [unhide HOKA];simp[puOk,hA]))
     clear HOKA HNX hA
     go_wp2_with fail
     refine wp_region_quiet_lit (by kernel_rfl) (by kernel_rfl) ?_
     repeat (first|go_big_quiet_step ((first|(go_at_call 23;exact qKey _ _ hks hkb' _ _)|(go_at_call_of 20 (IntKind.i64.wrap (pf+ps));exact qAm _ _ g4 _ _)|(go_at_call_of 20 (pf+ps);exact qAm _ _ g5 _ _)|(go_at_call_of 20 pm;exact qAm _ _ g1 _ _)|(go_at_call_of 20 pf;exact qAm _ _ g2 _ _)|(go_at_call_of 20 ps;exact qAm _ _ g3 _ _)))|quiet_step ((first|(go_at_call 23;exact qKey _ _ hks hkb' _ _)|(go_at_call_of 20 (IntKind.i64.wrap (pf+ps));exact qAm _ _ g4 _ _)|(go_at_call_of 20 (pf+ps);exact qAm _ _ g5 _ _)|(go_at_call_of 20 pm;exact qAm _ _ g1 _ _)|(go_at_call_of 20 pf;exact qAm _ _ g2 _ _)|(go_at_call_of 20 ps;exact qAm _ _ g3 _ _))))
     refine wpQuiet_nil ?_
     intro _ hw'
     obtain⟨nq,hw''⟩:=hw'
     subst hw''
     go_wp2_with fail
     go_ret
     exact⟨ret_bool (unhide HBAD).symm,((unhide HBL).alloc (unhide HBL).size _).trans ⟨rfl,rfl,rfl,Nat.le_refl _,fun _ _=>rfl⟩⟩
    have g2:decide (Inn pf 0 1000000000)=true:=decide_eq_true h2
    have hA2:amB pf=true:=decide_eq_true h2
    by_cases h3:0≤ps∧ps≤1000000000
    case' neg=>
     have hA:amB ps=false:=decide_eq_false h3
     have g3:decide (Inn ps 0 1000000000)=false:=decide_eq_false h3
     have HBAD:=hide (psOk_bad hlt (show okAt l (j+1)=false by rw [unhide HOKA];simp[puOk,hA]))
     clear HOKA HNX hA
     go_wp2_with fail
     refine wp_region_quiet_lit (by kernel_rfl) (by kernel_rfl) ?_
     repeat (first|go_big_quiet_step ((first|(go_at_call 23;exact qKey _ _ hks hkb' _ _)|(go_at_call_of 20 (IntKind.i64.wrap (pf+ps));exact qAm _ _ g4 _ _)|(go_at_call_of 20 (pf+ps);exact qAm _ _ g5 _ _)|(go_at_call_of 20 pm;exact qAm _ _ g1 _ _)|(go_at_call_of 20 pf;exact qAm _ _ g2 _ _)|(go_at_call_of 20 ps;exact qAm _ _ g3 _ _)))|quiet_step ((first|(go_at_call 23;exact qKey _ _ hks hkb' _ _)|(go_at_call_of 20 (IntKind.i64.wrap (pf+ps));exact qAm _ _ g4 _ _)|(go_at_call_of 20 (pf+ps);exact qAm _ _ g5 _ _)|(go_at_call_of 20 pm;exact qAm _ _ g1 _ _)|(go_at_call_of 20 pf;exact qAm _ _ g2 _ _)|(go_at_call_of 20 ps;exact qAm _ _ g3 _ _))))
     refine wpQuiet_nil ?_
     intro _ hw'
     obtain⟨nq,hw''⟩:=hw'
     subst hw''
     go_wp2_with fail
     go_ret
     exact⟨ret_bool (unhide HBAD).symm,((unhide HBL).alloc (unhide HBL).size _).trans ⟨rfl,rfl,rfl,Nat.le_refl _,fun _ _=>rfl⟩⟩
    have g3:decide (Inn ps 0 1000000000)=true:=decide_eq_true h3
    have hA3:amB ps=true:=decide_eq_true h3
    have e4:IntKind.i64.wrap (pf+ps)=pf+ps:=IntWalk.i64_in _ ⟨by omega,by omega⟩
    by_cases h4:0≤(pf+ps)∧(pf+ps)≤1000000000
    case' neg=>
     have hA:amB (pf+ps)=false:=decide_eq_false h4
     have g4:decide (Inn (pf+ps) 0 1000000000)=false:=decide_eq_false h4
     have g5:=g4
     rw [←e4] at g4
     have HBAD:=hide (psOk_bad hlt (show okAt l (j+1)=false by rw [unhide HOKA];simp[puOk,hA]))
     clear HOKA HNX hA
     go_wp2_with fail
     refine wp_region_quiet_lit (by kernel_rfl) (by kernel_rfl) ?_
     repeat (first|go_big_quiet_step ((first|(go_at_call 23;exact qKey _ _ hks hkb' _ _)|(go_at_call_of 20 (IntKind.i64.wrap (pf+ps));exact qAm _ _ g4 _ _)|(go_at_call_of 20 (pf+ps);exact qAm _ _ g5 _ _)|(go_at_call_of 20 pm;exact qAm _ _ g1 _ _)|(go_at_call_of 20 pf;exact qAm _ _ g2 _ _)|(go_at_call_of 20 ps;exact qAm _ _ g3 _ _)))|quiet_step ((first|(go_at_call 23;exact qKey _ _ hks hkb' _ _)|(go_at_call_of 20 (IntKind.i64.wrap (pf+ps));exact qAm _ _ g4 _ _)|(go_at_call_of 20 (pf+ps);exact qAm _ _ g5 _ _)|(go_at_call_of 20 pm;exact qAm _ _ g1 _ _)|(go_at_call_of 20 pf;exact qAm _ _ g2 _ _)|(go_at_call_of 20 ps;exact qAm _ _ g3 _ _))))
     refine wpQuiet_nil ?_
     intro _ hw'
     obtain⟨nq,hw''⟩:=hw'
     subst hw''
     go_wp2_with fail
     go_ret
     exact⟨ret_bool (unhide HBAD).symm,((unhide HBL).alloc (unhide HBL).size _).trans ⟨rfl,rfl,rfl,Nat.le_refl _,fun _ _=>rfl⟩⟩
    have g4:decide (Inn (pf+ps) 0 1000000000)=true:=decide_eq_true h4
    have hA4:amB (pf+ps)=true:=decide_eq_true h4
    have g5:=g4
    rw [←e4] at g4
    have HGOOD:=hide (show okAt l (j+1)=true by rw [unhide HOKA];simp[puOk,hkb,hA1,hA2,hA3,hA4,unhide hsl])
    clear HOKA hA1 hA2 hA3 hA4
    go_wp2_with fail
    refine wp_region_quiet_lit (by kernel_rfl) (by kernel_rfl) ?_
    repeat (first|go_big_quiet_step ((first|(go_at_call 23;exact qKey _ _ hks hkb' _ _)|(go_at_call_of 20 (IntKind.i64.wrap (pf+ps));exact qAm _ _ g4 _ _)|(go_at_call_of 20 (pf+ps);exact qAm _ _ g5 _ _)|(go_at_call_of 20 pm;exact qAm _ _ g1 _ _)|(go_at_call_of 20 pf;exact qAm _ _ g2 _ _)|(go_at_call_of 20 ps;exact qAm _ _ g3 _ _)))|quiet_step ((first|(go_at_call 23;exact qKey _ _ hks hkb' _ _)|(go_at_call_of 20 (IntKind.i64.wrap (pf+ps));exact qAm _ _ g4 _ _)|(go_at_call_of 20 (pf+ps);exact qAm _ _ g5 _ _)|(go_at_call_of 20 pm;exact qAm _ _ g1 _ _)|(go_at_call_of 20 pf;exact qAm _ _ g2 _ _)|(go_at_call_of 20 ps;exact qAm _ _ g3 _ _))))
    refine wpQuiet_nil ?_
    intro _ hw'
    obtain⟨nq,hw''⟩:=hw'
    subst hw''
    go_wp2_with fail
    go_roundw
    case rel=>exact⟨(j+1)+1,by omega,by go_num,by rw [unhide HNX,unhide HALL,unhide HGOOD];rfl,((unhide HBL).alloc (unhide HBL).size _).trans ⟨rfl,rfl,rfl,Nat.le_refl _,fun _ _=>rfl⟩⟩
    case measure=>simp[intOf];omega
  ·have hke:k=l.length:=by omega
   subst hke
   have hnlt:decide ((l.length:Int) < (l.length:Int))=false:=by simp
   have HF:=hide (psOk_good (unhide HALL))
   go_wp2_with fail
   go_ret
   exact⟨ret_bool (by rw [unhide HF];simp<;>omega),unhide HBL⟩
set_option maxHeartbeats 2000000
theorem specPurseOf (a:Option Addr) (cap:Nat) (l:List Pu) (key:ByteArray) (w:World) (hl:l.length≤1048600) (ha:PursesAt w a l):
 Calls Tryz.prog 61 #[.slice a l.length cap,.string key] w fun e w'=>e= .returned (puv (purseOf l key))∧Below w.heap.size w w':=by
 have HA:=hide ha
 clear ha
 go_enter Tryz.func61,Tryz.ntmps61
 go_wp2_with fail
 go_loopw [5] (fun i wr=>∃k:Nat,k≤l.length∧i= .int .i64 k∧(l.take k).find? (fun p=>p.k.toList == key.toList)=none∧wr=w.alloc (.cells #[.string ⟨#[]⟩,.int .i64 0,.int .i64 0,.int .i64 0] 80)) (fun i _=>l.length - (intOf i).toNat)
 case atStart=>exact⟨0,Nat.zero_le _,rfl,rfl,rfl⟩
 case round=>
  obtain⟨k,hk,rfl,hnone,rfl⟩:=hrel
  have HN:=hide hnone
  clear hnone
  by_cases hlt:k < l.length
  ·obtain⟨g,off,rfl,hgw,c0,c1,c2,c3⟩:=PursesAt.four (unhide HA) k hlt
   have hfs:=find_step (fun p=>p.k.toList == key.toList) l k hlt (unhide HN)
   cases hf:l[k].k.toList == key.toList
   ·have HX:=hide (hfs.2 hf)
    clear hfs HN
    generalize l[k]=pu at *
    obtain⟨pk,pm,pf,ps⟩:=pu
    dsimp only at c0 c1 c2 c3 hf
    go_wp2_with fail
    go_roundw
    case rel=>exact⟨k+1,by omega,by go_num,unhide HX,by first|rfl|trivial⟩
    case measure=>simp[intOf];omega
   ·have HX:=hide (show purseOf l key=l[k] by unfold purseOf;rw [hfs.1 hf];rfl)
    clear hfs HN
    generalize l[k]=pu at *
    obtain⟨pk,pm,pf,ps⟩:=pu
    dsimp only at c0 c1 c2 c3 hf
    go_wp2_with fail
    refine bodyPost_ret (v:= .agg #[.string pk,.int .i64 pm,.int .i64 pf,.int .i64 ps]) (by simp[results,Tryz.results61,go_sem]) rfl ⟨by rw [unhide HX],?_⟩
    exact(Below.refl _ _).alloc (Nat.le_refl _) _
  ·have hke:k=l.length:=by omega
   subst hke
   have hnlt:decide ((l.length:Int) < (l.length:Int))=false:=by simp
   have HX:=hide (show purseOf l key=⟨key,0,0,0⟩ by
    have h:=unhide HN
    rw [List.take_length] at h
    unfold purseOf
    rw [h]
    rfl)
   go_wp2_with fail
   refine bodyPost_ret (v:= .agg #[.string key,.int .i64 0,.int .i64 0,.int .i64 0]) (by simp[results,Tryz.results61,go_sem]) rfl ⟨by rw [unhide HX],?_⟩
   exact(Below.refl _ _).alloc (Nat.le_refl _) _
theorem four_at {w:World} {g:Nat} {a0 a1 a2 a3:Value} {t:TypeId} (h:w.heap[g]?=some (.cells #[a0,a1,a2,a3] t (0,0))):
 (w.cell? ⟨g,0,none⟩=some a0∧w.cell? ⟨g,1,none⟩=some a1∧w.cell? ⟨g,2,none⟩=some a2∧w.cell? ⟨g,3,none⟩=some a3)∧(w.frozen? ⟨g,0,none⟩=false∧w.frozen? ⟨g,1,none⟩=false∧w.frozen? ⟨g,2,none⟩=false∧w.frozen? ⟨g,3,none⟩=false):=by
 have hc:∀i,w.cell? ⟨g,i,none⟩=#[a0,a1,a2,a3][i]?:=fun i=>cell_of_row w g i _ t (0,0) h
 have hf:∀i,w.frozen? ⟨g,i,none⟩=false:=fun i=>by unfold World.frozen?;rw [h];simp
 exact⟨⟨hc 0,hc 1,hc 2,hc 3⟩,hf 0,hf 1,hf 2,hf 3⟩
theorem below_one' (w:World) (o:Obj):Below w.heap.size w (w.alloc o):=(Below.refl _ _).alloc (Nat.le_refl _) _
theorem infoPu:(Tryz.prog.info? 80).map (fun i=>(i.zero,i.size,i.bytes))=some (some (.agg #[.string ByteArray.empty,.int .i64 0,.int .i64 0,.int .i64 0]),4,40):=by kernel_rfl
theorem PursesAt.news {w:World} {x:Addr} {l:List Pu} (h:PursesAt w (some x) l):∀j u,(GR.flat encP l)[j]?=some u→w.cell? (x.add j)=some u:=by
 intro j u hu
 have hj:j < l.length*4:=by
  have:=(List.getElem?_eq_some_iff.1 hu).1
  rwa [GR.flat_length encP 4 encP_length] at this
 obtain⟨g,off,e,hg,hc⟩:=h (j / 4) (by omega)
 have hf:=GR.flat_at encP 4 encP_length l (j / 4) (by omega) (j % 4) (by omega)
 have ej:j / 4*4+j % 4=j:=by omega
 rw [ej] at hf
 have h2:=hc (j % 4) (by omega)
 rw [ej,←hf,hu] at h2
 injection e with e
 subst e
 have ea:(⟨g,off,none⟩:Addr).add j=⟨g,off+j,none⟩:=by unfold Addr.add;split<;>simp_all
 rw [ea]
 exact h2
theorem encP_one (l:List Pu):∀u∈GR.flat encP l,u.oneCell'=true:=by
 intro u hu
 unfold GR.flat at hu
 rw [List.mem_flatMap] at hu
 obtain⟨p,_,hp⟩:=hu
 simp only[encP,List.mem_cons,List.not_mem_nil,or_false] at hp
 rcases hp with rfl|rfl|rfl|rfl<;>rfl
abbrev puBlk (w:World) (g:Nat) (l:List Pu):Prop:=GR.Blk encP 80 w g l
theorem puBlk.four {w:World} {g:Nat} {l:List Pu} (h:puBlk w g l) (i:Nat) (hi:i < l.length):w.cell? ⟨g,i*4,none⟩=some (.string l[i].k)∧w.cell? ⟨g,i*4+1,none⟩=some (.int .i64 l[i].m)∧w.cell? ⟨g,i*4+2,none⟩=some (.int .i64 l[i].f)∧w.cell? ⟨g,i*4+3,none⟩=some (.int .i64 l[i].s):=
 ⟨by simpa using GR.Blk.cell h encP_length i hi 0 (by omega),by simpa using GR.Blk.cell h encP_length i hi 1 (by omega),by simpa using GR.Blk.cell h encP_length i hi 2 (by omega),by simpa using GR.Blk.cell h encP_length i hi 3 (by omega)⟩
end Go.Proofs.YtdlokncalhopoaaGreat
