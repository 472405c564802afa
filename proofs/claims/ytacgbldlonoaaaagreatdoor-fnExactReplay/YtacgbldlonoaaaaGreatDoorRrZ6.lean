/-
  Parts of proofs that stand more than once, each said once.
-/
import Derived.Test.YtacgbldlonoaaaaGreatDoorRrZ5
namespace Go.Proofs.YtacgbldlonoaaaaGreatDoor
set_option maxRecDepth 100000
variable{P:Prop}
theorem aqV.Kr228(h:P:=by
 have HGV:=Hq (λW (hBW:B<=W.heap.size) (hN:NQ W B n A G (newC w.heap.size 9 c))=>Ol n A G (newC w.heap.size 9 c) mF mk mN W B hBW h9n hz hmk hP tu h0 hN);clear h9n hz hP tu;unfold fq at HGV;generalize eO n mF mk mN=GV at *;obtain⟨N1,L1,b1⟩:=GV;dsimp only at HGV ⊢;generalize (if b1=true then(0:Int) else 1)=Au at *;unfold fq;have H9:=Hq h9;clear h9;have VR:=Hq (λW=>jV ⟨0,mF,mT,mI,mL,mk,mN⟩ W Aal);open ajd in exact Xg):P:=h
theorem adI(h:P:=by
 go_wp2_with fail;refine(HCM _).mono ?_;rintro e w1 ⟨rfl,hb1⟩;have HB1:=Hq (HB.trans (hb1.mono HB.size));exact Kr229):P:=h
theorem aqW.Kr229(h:P:=by
 have HE:Hid (RF=(ln - no == 0)):=by
  show RF=_
  rw [ah HFP,Bool.eq_iff_iff,decide_eq_true_iff,beq_iff_eq];omega
 clear hb1 q0 q1 q2 q3 HFP;go_wp2_with fail;go_ret2
 exact⟨by rw [ah HE];rfl,HB1⟩):P:=h
theorem aqX.Kr229(h:P:=by
 clear hb1 q0 q1 q2 q3;by_cases hc:ln - no < 0
 .go_wp2_with fail;go_roundw
  case rel=>exact⟨m+1,q,by
   rcases Nat.lt_or_ge R (m+1) with h9|h9
   .have:=ah HHM Aaa;omega
   .exact h9,h3,h4,Aai,rfl,HB1⟩
  case measure=>simp[intOf];omega
 .go_wp2_with fail;go_roundw
  case rel=>exact⟨p,m,h2,by
   rcases Nat.lt_or_ge m R with h9|h9
   .have:=ah HLM h9;omega
   .exact h9,Aaa,rfl,rfl,HB1⟩
  case measure=>simp[intOf];omega):P:=h
theorem adJ(h:P:=by
 go_enter Tryz.func261,Tryz.ntmps261
 go_wp2_with fail;refine(HO _).mono ?_;rintro e w1 ⟨rfl,hb1⟩;obtain⟨hA,hC,hbel⟩:=yQ hb1;have HC:=Hq hC;have fO:=Hq hbel;exact Kr230):P:=h
theorem aqY.Kr230(h:P:=by
 obtain⟨⟨p0,p1,p2,p3⟩,_⟩:=fJ hA;obtain⟨⟨r0,r1,r2,r3⟩,s0,s1,s2,s3⟩:=fJ hC;clear hb1 hA hC hbel;go_wp2_with fail;clear r0 r1 r2 r3;refine Fo.bodyPost_at (λW' hW'=>?_);obtain⟨⟨r0,r1,r2,r3⟩,_⟩:=fJ (show W'.heap[w.heap.size+1+1]?=some (.cells (iL pk (pm+dm*n) (pf+df*n) (ps+ds*n)) 143 (0,0)) by rw [hW'];exact Fo.four_set HC);have hbb:aX w W':=by rw [hW'];exact Fo.four_below fO Aaa
 exact bodyPost_ret (v:= .tuple #[.agg (iL pk (pm+dm*n) (pf+df*n) (ps+ds*n)),.nilIface]) (by simp[results,Tryz.results261,go_sem,r0,r1,r2,r3]) rfl ⟨rfl,hbb⟩):P:=h
theorem aqZ.Kr230(h:P:=by
 have ve:=(HE.below hbel).var 4 Aaa;have hsz:=(show w.heap.size+1+1 < w1.heap.size from Fo.lt_of_blk hC);have hve:4 < w.heap.size:=World.block_lt_of_cell? _ _ (HE.var 4 Aaa);obtain⟨⟨r0,r1,r2,r3⟩,s0,s1,s2,s3⟩:=fJ hC;clear hb1 hA hC hbel;go_wp2_with fail;go_region
 all_goals
  go_wp2_with fail
  refine Fo.bodyPost_at (λW' hW'=>?_)
  obtain⟨⟨t0,t1,t2,t3⟩,_⟩:=fJ (show W'.heap[w.heap.size+1+1]?=some (.cells (iL ⟨#[]⟩ 0 0 0) 143 (0,0)) by rw [hW'];exact Fo.four_set (w:=w1.drew) HC)
  have hbb:aX w W':=by rw [hW'];exact Fo.four_below (w:=w1.drew) (fO.trans ⟨rfl,rfl,rfl,Nat.le_refl _,λ_ _=>rfl⟩) Aaa
  exact bodyPost_ret (v:= .tuple #[.agg (iL ⟨#[]⟩ 0 0 0),tV (E 4)]) (by simp[results,Tryz.results261,go_sem,t0,t1,t2,t3]) rfl ⟨rfl,hbb⟩):P:=h
end Go.Proofs.YtacgbldlonoaaaaGreatDoor
