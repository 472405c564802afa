/-
  Parts of proofs that stand more than once, each said once.
-/
import Derived.Test.YtacgbldlonoaaaaGreatDoorRrZ3
namespace Go.Proofs.YtacgbldlonoaaaaGreatDoor
set_option maxRecDepth 100000
variable{P:Prop}
theorem amd.Kr108(h:P:=by
 obtain⟨c0,c1,c2,_⟩:=nine hblk;clear hall hbel hblk;by_cases hlt:k < kids.length
 case' neg=>
  have hke:k=kids.length:=Aaa
  subst hke
  have hnlt:decide ((kids.length:Int) < (kids.length:Int))=false:=Aac
  have HF:Hid (dZ ⟨id,par,kids,next,pu,out,seen,old,reqs⟩=true):=by
   exact Tk
  go_wp2_with fail
  go_ret
  exact⟨aD HF.symm,fO⟩
 have HBAD:Hid (gQ (jo id par) iA (kids.take (k+1))=false->dZ ⟨id,par,kids,next,pu,out,seen,old,reqs⟩=false):=λh=>lS.trans (vM _ h)
 cases k with
 |zero=>
  obtain⟨g,off,rfl,hgw,q0⟩:=eu.one (GR.At.below HA fO) 0 hlt
  rw [Nat.add_zero] at q0
  have hgt:decide ((0:Int) < ((0:Nat):Int))=false:=rfl
  have gG:Hid (gQ (jo id par) iA (kids.take 1)=jo id par kids[0]):=ah Bd hlt
  clear Bd BX vM
  generalize kids[0]=x at *
  cases hx1:rF x
  case' false=>
   have HP:=Hq (HBAD (by rw [ah gG];simp[jo,hx1]))
   clear HBAD gG
   go_wp2_with fail
   refine wp_region_quiet_lit Aab Aab ?_
   repeat (first|go_big_quiet_step ((first|(go_at_call 134;exact lX _ _ hx1 _ _)))|quiet_step ((first|(go_at_call 134;exact lX _ _ hx1 _ _))))
   refine wpQuiet_nil ?_
   intro _ hw'
   obtain⟨nq,hw''⟩:=hw'
   subst hw''
   go_wp2_with fail
   go_ret
   exact⟨aD HP.symm,fO.trans ⟨rfl,rfl,rfl,Nat.le_refl _,λ_ _=>rfl⟩⟩
  by_cases hx2:x=id
  case' pos=>
   have hy2:(x == id)=true:=by simp[hx2]
   have HP:=Hq (HBAD (by rw [ah gG];simp[jo,hx2]))
   clear HBAD gG hx2
   go_wp2_with fail
   refine wp_region_quiet_lit Aab Aab ?_
   repeat (first|go_big_quiet_step ((first|(go_at_call 134;exact lX _ _ hx1 _ _)))|quiet_step ((first|(go_at_call 134;exact lX _ _ hx1 _ _))))
   refine wpQuiet_nil ?_
   intro _ hw'
   obtain⟨nq,hw''⟩:=hw'
   subst hw''
   go_wp2_with fail
   go_ret
   exact⟨aD HP.symm,fO.trans ⟨rfl,rfl,rfl,Nat.le_refl _,λ_ _=>rfl⟩⟩
  have hy2:(x == id)=false:=by simp[hx2]
  by_cases hx3:x=par
  case' pos=>
   have hy3:(x == par)=true:=by simp[hx3]
   have HP:=Hq (HBAD (by rw [ah gG];simp[jo,hx3]))
   clear HBAD gG hx3
   go_wp2_with fail
   refine wp_region_quiet_lit Aab Aab ?_
   repeat (first|go_big_quiet_step ((first|(go_at_call 134;exact lX _ _ hx1 _ _)))|quiet_step ((first|(go_at_call 134;exact lX _ _ hx1 _ _))))
   refine wpQuiet_nil ?_
   intro _ hw'
   obtain⟨nq,hw''⟩:=hw'
   subst hw''
   go_wp2_with fail
   go_ret
   exact⟨aD HP.symm,fO.trans ⟨rfl,rfl,rfl,Nat.le_refl _,λ_ _=>rfl⟩⟩
  have hy3:(x == par)=false:=by simp[hx3]
  have HG:=Hq (show gQ (jo id par) iA (kids.take (0+1))=true by rw [ah gG];simp[jo,hx1,hx2,hx3])
  clear HBAD gG
  go_wp2_with fail
  refine wp_region_quiet_lit Aab Aab ?_
  repeat (first|go_big_quiet_step ((first|(go_at_call 134;exact lX _ _ hx1 _ _)))|quiet_step ((first|(go_at_call 134;exact lX _ _ hx1 _ _))))
  refine wpQuiet_nil ?_
  intro _ hw'
  obtain⟨nq,hw''⟩:=hw'
  subst hw''
  go_wp2_with fail
  go_roundw
  case rel=>exact⟨0+1,Aaa,Aai,HG,Ey,fO.trans ⟨rfl,rfl,rfl,Nat.le_refl _,λ_ _=>rfl⟩⟩
  case measure=>simp[intOf];omega
 |succ j=>
  obtain⟨g,off,e1,hgw,q0⟩:=eu.one (GR.At.below HA fO) (j+1) hlt
  obtain⟨g',off',e2,axt,q1⟩:=eu.one (GR.At.below HA fO) j Aaa
  rw [e1] at e2
  injection e2 with e2
  injection e2 with e2 e3
  subst e2 e3 e1
  have hgt:decide ((0:Int) < ((j+1:Nat):Int))=true:=decide_eq_true Aaa
  have gG:Hid (gQ (jo id par) iA (kids.take (j+1+1))=(jo id par kids[j+1]&&iA kids[j] kids[j+1])):=by
   have h:=ah BX j hlt;rw [ah mV] at h;exact h
  clear Bd BX vM
  generalize kids[j]=y at *
  generalize kids[j+1]=x at *
  cases hx1:rF x
  case' false=>
   have HP:=Hq (HBAD (by rw [ah gG];simp[jo,hx1]))
   clear HBAD gG
   go_wp2_with fail
   refine wp_region_quiet_lit Aab Aab ?_
   repeat (first|go_big_quiet_step ((first|(go_at_call 134;exact lX _ _ hx1 _ _)))|quiet_step ((first|(go_at_call 134;exact lX _ _ hx1 _ _))))
   refine wpQuiet_nil ?_
   intro _ hw'
   obtain⟨nq,hw''⟩:=hw'
   subst hw''
   go_wp2_with fail
   go_ret
   exact⟨aD HP.symm,fO.trans ⟨rfl,rfl,rfl,Nat.le_refl _,λ_ _=>rfl⟩⟩
  by_cases hx2:x=id
  case' pos=>
   have hy2:(x == id)=true:=by simp[hx2]
   have HP:=Hq (HBAD (by rw [ah gG];simp[jo,hx2]))
   clear HBAD gG hx2
   go_wp2_with fail
   refine wp_region_quiet_lit Aab Aab ?_
   repeat (first|go_big_quiet_step ((first|(go_at_call 134;exact lX _ _ hx1 _ _)))|quiet_step ((first|(go_at_call 134;exact lX _ _ hx1 _ _))))
   refine wpQuiet_nil ?_
   intro _ hw'
   obtain⟨nq,hw''⟩:=hw'
   subst hw''
   go_wp2_with fail
   go_ret
   exact⟨aD HP.symm,fO.trans ⟨rfl,rfl,rfl,Nat.le_refl _,λ_ _=>rfl⟩⟩
  have hy2:(x == id)=false:=by simp[hx2]
  by_cases hx3:x=par
  case' pos=>
   have hy3:(x == par)=true:=by simp[hx3]
   have HP:=Hq (HBAD (by rw [ah gG];simp[jo,hx3]))
   clear HBAD gG hx3
   go_wp2_with fail
   refine wp_region_quiet_lit Aab Aab ?_
   repeat (first|go_big_quiet_step ((first|(go_at_call 134;exact lX _ _ hx1 _ _)))|quiet_step ((first|(go_at_call 134;exact lX _ _ hx1 _ _))))
   refine wpQuiet_nil ?_
   intro _ hw'
   obtain⟨nq,hw''⟩:=hw'
   subst hw''
   go_wp2_with fail
   go_ret
   exact⟨aD HP.symm,fO.trans ⟨rfl,rfl,rfl,Nat.le_refl _,λ_ _=>rfl⟩⟩
  have hy3:(x == par)=false:=by simp[hx3]
  by_cases hx4:y < x
  case' neg=>
   have hy4:decide (x<=y)=true:=decide_eq_true Aaa
   have HP:=Hq (HBAD (by rw [ah gG];simp[jo,iA,hx4]))
   clear HBAD gG
   go_wp2_with fail
   refine wp_region_quiet_lit Aab Aab ?_
   repeat (first|go_big_quiet_step ((first|(go_at_call 134;exact lX _ _ hx1 _ _)))|quiet_step ((first|(go_at_call 134;exact lX _ _ hx1 _ _))))
   refine wpQuiet_nil ?_
   intro _ hw'
   obtain⟨nq,hw''⟩:=hw'
   subst hw''
   go_wp2_with fail
   go_ret
   exact⟨aD HP.symm,fO.trans ⟨rfl,rfl,rfl,Nat.le_refl _,λ_ _=>rfl⟩⟩
  have hy4:decide (x<=y)=false:=decide_eq_false Aaa
  have HG:=Hq (show gQ (jo id par) iA (kids.take (j+1+1))=true by rw [ah gG];simp[jo,hx1,hx2,hx3,iA,hx4])
  clear HBAD gG
  go_wp2_with fail
  refine wp_region_quiet_lit Aab Aab ?_
  repeat (first|go_big_quiet_step ((first|(go_at_call 134;exact lX _ _ hx1 _ _)))|quiet_step ((first|(go_at_call 134;exact lX _ _ hx1 _ _))))
  refine wpQuiet_nil ?_
  intro _ hw'
  obtain⟨nq,hw''⟩:=hw'
  subst hw''
  go_wp2_with fail
  go_roundw
  case rel=>exact⟨j+1+1,Aaa,Aai,HG,Ey,fO.trans ⟨rfl,rfl,rfl,Nat.le_refl _,λ_ _=>rfl⟩⟩
  case measure=>simp[intOf];omega):P:=h
theorem ab1(h:P:=by
 obtain⟨e1,e2,e3,e4⟩:=fC w (.cells (dH n A) 30) (.cells (bY 4 no k nn mK mF mT mI mL mk mN) 34) (.cells gu 30);have hsz:(((w.alloc (.cells (dH n A) 30)).alloc (.cells (bY 4 no k nn mK mF mT mI mL mk mN) 34)).alloc (.cells gu 30)).heap.size=w.heap.size+3:=Aac
 generalize hW0:((w.alloc (.cells (dH n A) 30)).alloc (.cells (bY 4 no k nn mK mF mT mI mL mk mN) 34)).alloc (.cells gu 30)=W0 at *;exact Kr109):P:=h
theorem ame.Kr109(h:P:=by
 exact ar4):P:=h
theorem amf.Kr109(h:P:=by
 exact Zr9):P:=h
theorem ab2(h:P:=by
 obtain⟨e1,e2,e3,e4⟩:=fC w (.cells (dH n A) 30) (.cells (bY 3 no k nn mK mF mT mI mL mk mN) 34) (.cells gu 30);have hsz:(((w.alloc (.cells (dH n A) 30)).alloc (.cells (bY 3 no k nn mK mF mT mI mL mk mN) 34)).alloc (.cells gu 30)).heap.size=w.heap.size+3:=Aac
 generalize hW0:((w.alloc (.cells (dH n A) 30)).alloc (.cells (bY 3 no k nn mK mF mT mI mL mk mN) 34)).alloc (.cells gu 30)=W0 at *;exact Kr110):P:=h
theorem amg.Kr110(h:P:=by
 open ava in exact IW):P:=h
theorem amh.Kr110(h:P:=by
 exact ar4):P:=h
theorem ab3(h:P:=by
 obtain⟨e1,e2,e3,e4⟩:=fC w (.cells (dH n A) 30) (.cells (bY 0 no k nn mK mF mT mI mL mk mN) 34) (.cells gu 30);have hsz:(((w.alloc (.cells (dH n A) 30)).alloc (.cells (bY 0 no k nn mK mF mT mI mL mk mN) 34)).alloc (.cells gu 30)).heap.size=w.heap.size+3:=Aac
 generalize hW0:((w.alloc (.cells (dH n A) 30)).alloc (.cells (bY 0 no k nn mK mF mT mI mL mk mN) 34)).alloc (.cells gu 30)=W0 at *;exact Kr111):P:=h
theorem ami.Kr111(h:P:=by
 open ave in exact IW):P:=h
theorem amj.Kr111(h:P:=by
 open au8 in exact IW):P:=h
theorem ab4(h:P:=by
 refine Aq 3 rfl Aab Aad (λx hx=>?_);go_simp;refine⟨aj x _,?_⟩;have kE:=Hq (Ge.trans (Ge.trans uR hx) (aj x (.cells #[.int .u8 K] 5)));have hcx:(x.alloc (.cells #[.int .u8 K] 5)).cell? ⟨x.heap.size,0,none⟩=some (.int .u8 K):=Aac
 have hcv:=λd os=>HCV (Sort.grow (redrawn (x.alloc (.cells #[.int .u8 K] 5)) d) os) x.heap.size (cell_regrown hcx d os)
 exact Kr112):P:=h
theorem amk.Kr112(h:P:=by
 obtain⟨a1,a2,a3,a4⟩:=ah HA;clear hx uR HCV HA hcx;generalize hy:x.alloc (.cells #[.int .u8 K] 5)=y at *;refine tk [4,8,12,16,21,22] ?_;iterate 6 (refine tY (λK hK=>?_);go_simp;refine hK _ ?_;clear hK K)
 refine iN ?_;refine eX Aab (λz hz=>?_);have nG:=Hq (Ge.trans kE hz);clear hz kE hcv a1 a2 a3 a4;go_simp;go_wp2_with fail;go_ret;exact⟨rfl,nG⟩):P:=h
theorem aml.Kr112(h:P:=by
 obtain⟨a1,a2,a3,a4,a5,a6⟩:=ah HA;clear hx uR HCV HA hcx;generalize hy:x.alloc (.cells #[.int .u8 K] 5)=y at *;refine tk [4,8,12,16,20,24,28,29] ?_;iterate 8 (refine tY (λK hK=>?_);go_simp;refine hK _ ?_;clear hK K)
 refine iN ?_;refine eX Aab (λz hz=>?_);have nG:=Hq (Ge.trans kE hz);clear hz kE hcv a1 a2 a3 a4 a5 a6;go_simp;go_wp2_with fail;go_ret;exact⟨rfl,nG⟩):P:=h
theorem ab5(h:P:=by
 have q3s:=XJ (g:=w.heap.size+2) (i:=3) (b0:= .int .i64 n.id) (b1:= .int .i64 n.par) (b2:= .slice a_k n.kids.length aJ) (b3:= .int .i64 n.next) (b4:= .slice (some ⟨gp,0,none⟩) n.pu.length bq) (b5:= .slice dR n.out.length aO) (b6:= .slice dY n.seen.length aK) (b7:= .int .i64 n.old) (b8:= .slice (some ⟨gv,0,none⟩) (n.reqs.length+1) vc) (show w.heap.size+2≠W1.heap.size by omega) O7;exact Kr113):P:=h
theorem amm.Kr113(h:P:=by
 open aiS in exact Lr):P:=h
theorem amn.Kr113(h:P:=by
 go_simp;refine aF 1 rfl Aab Aad ?_;open aiT in exact Lr):P:=h
theorem ab6(h:P:=by
 have q3s:=XJ (g:=w.heap.size+2) (i:=3) (b0:= .int .i64 n.id) (b1:= .int .i64 n.par) (b2:= .slice a_k n.kids.length aJ) (b3:= .int .i64 n.next) (b4:= .slice (some ⟨gp,0,none⟩) n.pu.length bq) (b5:= .slice dR n.out.length aO) (b6:= .slice dY n.seen.length aK) (b7:= .int .i64 IH.no) (b8:= .slice (some ⟨g8,0,none⟩) n.reqs.length CV) (show w.heap.size+2≠W1.heap.size by omega) O7;exact Kr114):P:=h
theorem amo.Kr114(h:P:=by
 open aiQ in exact Lr):P:=h
theorem amq.Kr114(h:P:=by
 go_simp;refine aF 1 rfl Aab Aad ?_;open aiR in exact Lr):P:=h
theorem ab7(h:P:=by
 go_simp;have zn:=Hq (HG0.trans (hx1.mono HG0.size));have Yp:tq.heap.size<=x1.heap.size:=zn.size;clear hx1;refine⟨(aj x1 _).mono Yp,?_⟩;exact Kr115):P:=h
theorem amr.Kr115(h:P:=by
 have xV:=aj x1 (.cells #[.int .i64 mI] 3);have aav:=Hq (heap_alloc_new x1 (.cells #[.int .i64 mI] 3));have xw:=Hq (zn.trans (xV.mono zn.size));clear xV;generalize Mr:x1.alloc (.cells #[.int .i64 mI] 3)=y1 at *;clear Mr;refine gF 0 rfl Aab Aad Aae (λx2 hx2=>?_);go_simp;have uj:=Hq (xw.trans (hx2.mono xw.size));have uy:tq.heap.size<=x2.heap.size:=uj.size;have afb:=Hq (ay aav hx2);clear hx2;refine⟨(aj x2 _).mono uy,?_⟩;have EU:=aj x2 (.cells #[] 3);have EJ:=Hq (show(x2.alloc (.cells #[] 3)).ownsRow tq.heap.size 3 1 (.slice (some ⟨x2.heap.size,0,none⟩) 0 0) 0 (GR.flat aW []) from World.ownsRow_lit (base:=tq.heap.size) (e:=3) (size:=1) x2 #[] 0 uy Aah Aac);open an3 in exact acL):P:=h
theorem ams.Kr115(h:P:=by
 have xV:=aj x1 (.cells #[] 3);have aaE:=Hq (show(x1.alloc (.cells #[] 3)).ownsRow tq.heap.size 3 1 (.slice (some ⟨x1.heap.size,0,none⟩) 0 0) 0 (GR.flat aW []) from World.ownsRow_lit (base:=tq.heap.size) (e:=3) (size:=1) x1 #[] 0 Yp Aah Aac);have xw:=Hq (zn.trans (xV.mono zn.size));clear xV;generalize Mr:x1.alloc (.cells #[] 3)=y1 at *;clear Mr;refine jM 4 7 rfl rfl Aab Aad Aad Aae Aae (λx2 hx2=>?_) (λx2 hx2=>?_)
 .have uj:=Hq (xw.trans (hx2.mono xw.size));have uy:tq.heap.size<=x2.heap.size:=uj.size;have EI:=Hq (GR.own_below aaE hx2);clear hx2;obtain⟨v2,y2,TW,TV,TQ,atI⟩:=eT aQ Aaa x2 tq.heap.size 24 24 3 i0 (.int .i64 0) 8 Tryz.underlying24 hi0 hz0 hz1' hz2 rfl (.slice (some ⟨x1.heap.size,0,none⟩) 0 0) 0 (GR.flat aW ([])) EI (some ⟨gi,0,none⟩) ((aY s0 mL).take pos) LJ (GR.At.below EH uj) (pY _) Aah Aaa uy;rw [hlt1] at TW TV;refine Lib.wp_append_run x2 (.tmp 127) (.tmp 130) 24 24 rfl _ _ Aak Aak v2 y2 TW ?_;refine⟨(Below.refl _ _).grown TQ uy (λb hb=>(EI.lt b hb).1),?_⟩;go_simp;have IK:=Hq (uj.grown TQ uy (λb hb=>(EI.lt b hb).1));have EJ:Hid (y2.ownsRow tq.heap.size 3 1 v2 (pos) (GR.flat aW ((aY s0 mL).take pos))):=Hq (by simpa [GR.flat_nil] using TV);obtain⟨avR,cvR,Yn,_⟩:=GR.own_at (enc:=aW) (sz:=1) (l:=(aY s0 mL).take pos) aQ (by rw [hlt1];exact EJ);open aqf in exact ads
 .go_simp;have uj:=Hq (xw.trans (hx2.mono xw.size));have uy:tq.heap.size<=x2.heap.size:=uj.size;have EI:=Hq (GR.own_below aaE hx2);clear hx2;refine⟨(aj x2 _).mono uy,?_⟩;have EU:=aj x2 (.cells #[.int .i64 mI] 3);have Wi:=Hq (heap_alloc_new x2 (.cells #[.int .i64 mI] 3));open akZ in exact afo):P:=h
theorem ab8(h:P:=by
 open aqS in exact adG):P:=h
theorem amu.Kr116(h:P:=by
 exact asz):P:=h
theorem amv.Kr116(h:P:=by
 open apk in exact Ll):P:=h
theorem ab9(h:P:=by
 generalize Bz s=RES at *;generalize jH s=OK at *;generalize sH s (gI s 0)=N1 at *;generalize sH s (gI s 1)=N2 at *;generalize sH s (gI s 2)=N3 at *;generalize sH s (gI s 3)=N4 at *;generalize sH s (iO s (gI s 4))=N5 at *;generalize jc s (gI s 4)=TX at *;generalize jK s (iO s (gI s 4))=E6 at *;generalize iO s (gI s 4)=E5 at *;generalize gI s 4=E4 at *;exact Kr117):P:=h
theorem amw.Kr117(h:P:=by
 go_enter Tryz.func182,Tryz.ntmps182
 go_wp2_with fail;refine(HN _).mono ?_;rintro e w1 ⟨g,cap,rfl,hg1,hc1,hb1⟩;have XZ:=aI (heap_alloc_new w _) hb1;have hB1:=(aj w _).trans (hb1.mono Aac);have hC1:=Hq hc1;clear hb1 hc1;go_wp2_with fail;refine(HT _).mono ?_;rintro e w2 ⟨rfl,hb2⟩;have hR2:=aI XZ hb2;have hB2:=hB1.trans (hb2.mono hB1.size);have hg2:=Nat.lt_of_lt_of_le hg1 hb2.size;have hC2:=Hq (show w2.cell? ⟨g,0,none⟩=some (.int .i64 N1)/\w2.cell? ⟨g,1,none⟩=some (.int .i64 N2)/\w2.cell? ⟨g,2,none⟩=some (.int .i64 N3)/\w2.cell? ⟨g,3,none⟩=some (.int .i64 N4) by simp only[(Ar hb2).1 g _ hg1];exact hC1);clear hb2 XZ hB1 hg1 hC1;go_wp2_with fail;refine(HG _).mono ?_;rintro e w3 ⟨rfl,hb3⟩;have hR3:=aI hR2 hb3;have hB3:=hB2.trans (hb3.mono hB2.size);have hg3:=Nat.lt_of_lt_of_le hg2 hb3.size;have hC3:w3.cell? ⟨g,0,none⟩=some (.int .i64 N1)/\w3.cell? ⟨g,1,none⟩=some (.int .i64 N2)/\w3.cell? ⟨g,2,none⟩=some (.int .i64 N3)/\w3.cell? ⟨g,3,none⟩=some (.int .i64 N4):=by simp only[(Ar hb3).1 g _ hg2];exact hC2
 obtain⟨c0,c1,c2,c3⟩:=hC3;clear hb3 hR2 hB2 hg2 hC2;have HR3:=Hq hR3;have HB3:=Hq hB3;clear hR3 hB3;open anV in exact Ro):P:=h
theorem amx.Kr117(h:P:=by
 generalize gI s 3=E3 at *;generalize gI s 2=E2 at *;generalize gI s 1=E1 at *;rw [ez] at VJ;clear ez hs;unfold maxLen at *;have HH:=Hq hH;clear hH;go_enter Tryz.func246,Tryz.ntmps246
 go_upto_region 4 with fail;refine wp_at (λV0 hV=>?_)
 have hM0:V0.heap[w.heap.size+1]?=some (.cells (bJ (s[0].toNat:Int) 0 0 0 0 ⟨#[]⟩ 0) 32 (0,0)):=by
  rw [hV];have h:=heap_alloc_new (w.alloc (.cells (bJ 0 0 0 0 0 ⟨#[]⟩ 0) 32)) (.cells (bJ (s[0].toNat:Int) 0 0 0 0 ⟨#[]⟩ 0) 32);rwa [show(w.alloc (.cells (bJ 0 0 0 0 0 ⟨#[]⟩ 0) 32)).heap.size=w.heap.size+1 by simp] at h
 have hR0:V0.heap[w.heap.size]?=some (.cells (bJ 0 0 0 0 0 ⟨#[]⟩ 0) 32 (0,0)):=by rw [hV,Below.heap_alloc _ _ _ Aac];exact heap_alloc_new w _
 have hB0:aX w V0:=by rw [hV];exact((Below.refl _ _).alloc (Nat.le_refl _) _).alloc Aac _
 clear hV hw64 hb0;have HM0:=Hq hM0;have HR0:=Hq hR0;have HB0:=Hq hB0;clear hM0 hR0 hB0;go_wp2_with fail;refine(VJ _ (HH.below HB0)).mono ?_;rintro e x1 ⟨rfl,hb1⟩;have gM1:=aI HM0 hb1;have gR1:=aI HR0 hb1;have gB1:=HB0.trans (hb1.mono HB0.size);obtain⟨⟨c0,c1,c2,c3,c4,c5,c6⟩,f0,f1,f2,f3,f4,f5,f6⟩:=dG gM1;have hz1:=cu gM1;have GM1:=Hq gM1;have GR1:=Hq gR1;have GB1:=Hq gB1;clear hb1 HM0 HR0 HB0 gM1 gR1 gB1 VJ;go_upto_region 5 with fail;refine wp_at (λV1 hV=>?_);have hM1:V1.heap[w.heap.size+1]?=some (.cells (bJ (s[0].toNat:Int) N1 0 0 0 ⟨#[]⟩ 0) 32 (0,0)):=by rw [hV];exact blk_set GM1 1 (.int .i64 N1)
 have XZ:V1.heap[w.heap.size]?=some (.cells (bJ 0 0 0 0 0 ⟨#[]⟩ 0) 32 (0,0)):=by rw [hV];exact one_other GR1 Aaa
 have hB1:aX w V1:=by rw [hV];exact GB1.setCell (p:=⟨w.heap.size+1,1,none⟩) (Nat.le_succ _) (.int .i64 N1)
 clear hV GM1 GR1 GB1 c0 c1 c2 c3 c4 c5 c6 f0 f1 f2 f3 f4 f5 f6 hz1;have HM1:=Hq hM1;have HR1:=Hq XZ;have HB1:=Hq hB1;clear hM1 XZ hB1;go_wp2_with fail;refine(HG2 _ (HH.below HB1)).mono ?_;rintro e x2 ⟨rfl,hb2⟩;have gM2:=aI HM1 hb2;have gR2:=aI HR1 hb2;have gB2:=HB1.trans (hb2.mono HB1.size);obtain⟨⟨c0,c1,c2,c3,c4,c5,c6⟩,f0,f1,f2,f3,f4,f5,f6⟩:=dG gM2;have hz2:=cu gM2;have GM2:=Hq gM2;have GR2:=Hq gR2;have GB2:=Hq gB2;clear hb2 HM1 HR1 HB1 gM2 gR2 gB2 HG2;go_upto_region 6 with fail;refine wp_at (λV2 hV=>?_);have hM2:V2.heap[w.heap.size+1]?=some (.cells (bJ (s[0].toNat:Int) N1 N2 0 0 ⟨#[]⟩ 0) 32 (0,0)):=by rw [hV];exact blk_set GM2 2 (.int .i64 N2)
 have hR2:V2.heap[w.heap.size]?=some (.cells (bJ 0 0 0 0 0 ⟨#[]⟩ 0) 32 (0,0)):=by rw [hV];exact one_other GR2 Aaa
 have hB2:aX w V2:=by rw [hV];exact GB2.setCell (p:=⟨w.heap.size+1,2,none⟩) (Nat.le_succ _) (.int .i64 N2)
 clear hV GM2 GR2 GB2 c0 c1 c2 c3 c4 c5 c6 f0 f1 f2 f3 f4 f5 f6 hz2;have HM2:=Hq hM2;have HR2:=Hq hR2;have HB2:=Hq hB2;clear hM2 hR2 hB2;go_wp2_with fail;refine(KG _ (HH.below HB2)).mono ?_;rintro e x3 ⟨rfl,hb3⟩;have gM3:=aI HM2 hb3;have gR3:=aI HR2 hb3;have gB3:=HB2.trans (hb3.mono HB2.size);obtain⟨⟨c0,c1,c2,c3,c4,c5,c6⟩,f0,f1,f2,f3,f4,f5,f6⟩:=dG gM3;have hz3:=cu gM3;have GM3:=Hq gM3;have GR3:=Hq gR3;have GB3:=Hq gB3;clear hb3 HM2 HR2 HB2 gM3 gR3 gB3 KG;go_upto_region 7 with fail;refine wp_at (λV3 hV=>?_);have hM3:V3.heap[w.heap.size+1]?=some (.cells (bJ (s[0].toNat:Int) N1 N2 N3 0 ⟨#[]⟩ 0) 32 (0,0)):=by rw [hV];exact blk_set GM3 3 (.int .i64 N3)
 have hR3:V3.heap[w.heap.size]?=some (.cells (bJ 0 0 0 0 0 ⟨#[]⟩ 0) 32 (0,0)):=by rw [hV];exact one_other GR3 Aaa
 have hB3:aX w V3:=by rw [hV];exact GB3.setCell (p:=⟨w.heap.size+1,3,none⟩) (Nat.le_succ _) (.int .i64 N3)
 clear hV GM3 GR3 GB3 c0 c1 c2 c3 c4 c5 c6 f0 f1 f2 f3 f4 f5 f6 hz3;have HM3:=Hq hM3;have HR3:=Hq hR3;have HB3:=Hq hB3;clear hM3 hR3 hB3;go_wp2_with fail;refine(HG4 _ (HH.below HB3)).mono ?_;rintro e x4 ⟨rfl,hb4⟩;have gM4:=aI HM3 hb4;have gR4:=aI HR3 hb4;have gB4:=HB3.trans (hb4.mono HB3.size);obtain⟨⟨c0,c1,c2,c3,c4,c5,c6⟩,f0,f1,f2,f3,f4,f5,f6⟩:=dG gM4;have ze:=cu gM4;have GM4:=Hq gM4;have GR4:=Hq gR4;have GB4:=Hq gB4;clear hb4 HM3 HR3 HB3 gM4 gR4 gB4 HG4;go_upto_region 8 with fail;refine wp_at (λV4 hV=>?_);have hM4:V4.heap[w.heap.size+1]?=some (.cells (bJ (s[0].toNat:Int) N1 N2 N3 N4 ⟨#[]⟩ 0) 32 (0,0)):=by rw [hV];exact blk_set GM4 4 (.int .i64 N4)
 have hR4:V4.heap[w.heap.size]?=some (.cells (bJ 0 0 0 0 0 ⟨#[]⟩ 0) 32 (0,0)):=by rw [hV];exact one_other GR4 Aaa
 have hB4:aX w V4:=by rw [hV];exact GB4.setCell (p:=⟨w.heap.size+1,4,none⟩) (Nat.le_succ _) (.int .i64 N4)
 clear hV GM4 GR4 GB4 c0 c1 c2 c3 c4 c5 c6 f0 f1 f2 f3 f4 f5 f6 ze;have HM4:=Hq hM4;have HR4:=Hq hR4;have pE:=Hq hB4;clear hM4 hR4 hB4;go_wp2_with fail;refine(HG5 _ (HH.below pE)).mono ?_;rintro e x5 ⟨rfl,hb5⟩;have gM5:=aI HM4 hb5;have gR5:=aI HR4 hb5;have gB5:=pE.trans (hb5.mono pE.size);obtain⟨⟨c0,c1,c2,c3,c4,c5,c6⟩,f0,f1,f2,f3,f4,f5,f6⟩:=dG gM5;have hz5:=cu gM5;have GM5:=Hq gM5;have GR5:=Hq gR5;have GB5:=Hq gB5;clear hb5 HM4 HR4 pE gM5 gR5 gB5 HG5;go_upto_region 9 with fail;refine wp_at (λV5 hV=>?_);have hM5:V5.heap[w.heap.size+1]?=some (.cells (bJ (s[0].toNat:Int) N1 N2 N3 N4 TX 0) 32 (0,0)):=by rw [hV];exact blk_set GM5 5 (.string TX)
 have hR5:V5.heap[w.heap.size]?=some (.cells (bJ 0 0 0 0 0 ⟨#[]⟩ 0) 32 (0,0)):=by rw [hV];exact one_other GR5 Aaa
 have hB5:aX w V5:=by rw [hV];exact GB5.setCell (p:=⟨w.heap.size+1,5,none⟩) (Nat.le_succ _) (.string TX)
 clear hV GM5 GR5 GB5 c0 c1 c2 c3 c4 c5 c6 f0 f1 f2 f3 f4 f5 f6 hz5;have HM5:=Hq hM5;have Vq:=Hq hR5;have jW:=Hq hB5;clear hM5 hR5 hB5;go_wp2_with fail;refine(HG6 _ (HH.below jW)).mono ?_;rintro e x6 ⟨rfl,hb6⟩;have gM6:=aI HM5 hb6;have gR6:=aI Vq hb6;have gB6:=jW.trans (hb6.mono jW.size);obtain⟨⟨c0,c1,c2,c3,c4,c5,c6⟩,f0,f1,f2,f3,f4,f5,f6⟩:=dG gM6;have hz6:=cu gM6;have GM6:=Hq gM6;have GR6:=Hq gR6;have GB6:=Hq gB6;clear hb6 HM5 Vq jW gM6 gR6 gB6 HG6;go_upto_region 10 with fail;refine wp_at (λV6 hV=>?_);have hM6:V6.heap[w.heap.size+1]?=some (.cells (bJ (s[0].toNat:Int) N1 N2 N3 N4 TX N5) 32 (0,0)):=by rw [hV];exact blk_set GM6 6 (.int .i64 N5)
 have X9:V6.heap[w.heap.size]?=some (.cells (bJ 0 0 0 0 0 ⟨#[]⟩ 0) 32 (0,0)):=by rw [hV];exact one_other GR6 Aaa
 have hB6:aX w V6:=by rw [hV];exact GB6.setCell (p:=⟨w.heap.size+1,6,none⟩) (Nat.le_succ _) (.int .i64 N5)
 clear hV GM6 GR6 GB6 c0 c1 c2 c3 c4 c5 c6 f0 f1 f2 f3 f4 f5 f6 hz6;have hzM:=cu hM6;have hzR:=cu X9;by_cases hE:E6=(s.size:Int)
 case' neg=>
  have hO:OK=false:=by rw [ah HO,decide_eq_false hE];rfl
  have rR:=Hq (HZ hO)
  have hq:(E6 != (s.size:Int))=true:=Ace
  obtain⟨⟨d0,d1,d2,d3,d4,d5,d6⟩,f0,f1,f2,f3,f4,f5,f6⟩:=dG X9
  have HR:=Hq X9
  have HB:=Hq hB6
  have HE:=Hq hE
  clear hO HO HZ HM HP hM6 X9 hB6 hE
  go_wp2_with fail
  refine bodyPost_at (λW' hW'=>?_)
  obtain⟨⟨r0,r1,r2,r3,r4,r5,r6⟩,_⟩:=dG (show W'.heap[w.heap.size]?=some (.cells (bJ 0 0 0 0 0 ⟨#[]⟩ 0) 32 (0,0)) by rw [hW'];exact mJ HR)
  have hbb:aX w W':=by rw [hW'];exact kQ HB (Nat.le_refl _)
  exact bodyPost_ret (v:= .tuple #[.agg (bJ 0 0 0 0 0 ⟨#[]⟩ 0),.bool false]) Adf rfl ⟨Aav,hbb⟩
 have hq:(E6 != (s.size:Int))=false:=Ace
 obtain⟨q0,q1,q2,q3,q4,q5,q6⟩:=rH hM6;have HR:=Hq X9;have HB:=Hq hB6;have HMB:=Hq hM6;have HE:=Hq hE;clear X9 hB6 hM6 hE;open amQ in exact aci):P:=h
theorem acd(h:P:=by
 have hc:s[k].toNat < 256:=s[k].toNat_lt;have axO:=hv2 hj;have HU:=Hq (hu2 hj);clear hv2 hu2 hv5 hu;obtain⟨hp0,hp1⟩:=abn s[k].toNat v;exact Kr118):P:=h
theorem amy.Kr118(h:P:=by
 by_cases hb:128<=s[k].toNat
 .have HR:=Hq (Mth.get_more s k _ m _ _ hlt hj hb HG);clear HG;go_wp2
  go_round
  case rel=>exact⟨_,_,_,k+1,HU,Hz m _ v hm,Aai,Aai,Aai,by have:=ah HK;omega,HR⟩
  case measure=>simp[intOf];omega
 .by_cases hbig:(4000000000:Int) < (m:Int)+(s[k].toNat:Int) % 128*(v:Int)
  .have HR:=Hq (Mth.get_bad s k _ m _ _ hlt hj hb (.inl (Np m _ v hb hbig)) HG);clear HG;exact aaL
  .by_cases hz:(s[k].toNat:Int)<=0
   .by_cases hj0:0 < j
    .have HR:=Hq (Mth.get_bad s k _ m _ _ hlt hj hb (.inr ⟨Aaa,hj0⟩) HG);have hik:i < k:=by have:=ah HK;omega
     clear HG;exact aaL
    .have HR:=Hq (Mth.get_hit s k _ m _ _ hlt hj hb (wO m _ v hb hbig) (.inr Aaa) HG);have hik:k<=i:=by have:=ah HK;omega
     clear HG;go_wp2
     go_ret3
     exact⟨NI HR (Nq m _ v hz) (by have:=ah HK;omega),rfl⟩
   .have HR:=Hq (Mth.get_hit s k _ m _ _ hlt hj hb (wO m _ v hb hbig) (.inl Aaa) HG);have hz':0 < (s[k].toNat:Int):=Aaa
    clear HG;go_wp2
    go_ret3
    exact⟨NI HR (Nr m _ v hb) (by have:=ah HK;omega),rfl⟩):P:=h
theorem amz.Kr118(h:P:=by
 by_cases hb:128<=s[k].toNat
 .have HR:=Hq (Mth.get_more s k _ m _ _ hlt hj hb HG);have HN:=Hq (UA s i j k m v HK hlt HU0 hb Vr);clear HG;go_wp2
  go_round
  case rel=>exact⟨_,_,_,k+1,HU,Hz m _ v hm,Aai,Aai,Aai,by have:=ah HK;omega,HN,HR⟩
  case measure=>simp[intOf];omega
 .go_wp2_with fail;generalize hx:((m:Int)+(s[k].toNat:Int) % 128*(v:Int))=x;have hx0:0<=x:=Aaa
  have hx1:x<=34359738368:=Aaa
  have HX:=Hq hx;clear hx hp0 hp1;have hA:(0:Int)<=(k:Int)+1:=Aaa
  have hB:(k:Int)+1<=(s.size:Int):=Aaa
  have hC:(i:Int)<=(k:Int)+1:=Aaa
  have hW:IntKind.i64.wrap ((k:Int)+1)=(k:Int)+1:=IntWalk.i64_in _ ⟨Aaa,Aaa⟩;by_cases hbig:4000000000 < x
  .have HR:=Hq (Mth.get_bad s k _ m _ _ hlt hj hb (.inl (Np m _ v hb (by rw [ah HX];exact hbig))) HG);have hne:(([]:List UInt8) == (s.extract i (k+1)).toList)=false:=Ho (by rw [xR s i j k (ah HK) hlt];simp);go_region_with (go_at_call 213;refine(tK _ _ (.inr hbig)).mono ?_;rintro e w' ⟨rfl,rfl⟩)
   all_goals
    go_wp2
    go_ret2
    exact⟨get_none HR,(Below.refl _ _).drew⟩
  .have hsm:x<=4000000000:=Aaa
   have HV:Hid (x.toNat=m+s[k].toNat*v):=by have h1:=Nr m s[k].toNat v hb;rw [ah HX] at h1;rw [h1];rfl
   by_cases hbad:s[k].toNat=0/\0 < j
   .have HR:=Hq (Mth.get_bad s k _ m _ _ hlt hj hb (.inr hbad) HG);have hne:(Mth.put x.toNat == (s.extract i (k+1)).toList)=false:=Ho (by rw [ah HV];exact afQ s i j k m v HK hlt HU0 hj Vr hbad.1 hbad.2);clear hbad;go_region_with (go_at_call 213;refine(uM _ _ hx0 hsm).mono ?_;rintro e w' ⟨rfl,hbel⟩)
    all_goals
     go_wp2
     go_ret2
     exact⟨get_none HR,by first|exact hbel|exact((Below.refl _ _).drew).trans hbel⟩
   .have HR:=Hq (Mth.get_hit s k _ m _ _ hlt hj hb (wO m _ v hb (by rw [ah HX];omega)) Aaa HG);have heq:(Mth.put x.toNat == (s.extract i (k+1)).toList)=true:=Tq (by rw [ah HV];exact aaX s i j k m v HK hlt HU0 hj hb Vr (by omega));clear hbad;go_region_with (go_at_call 213;refine(uM _ _ hx0 hsm).mono ?_;rintro e w' ⟨rfl,hbel⟩)
    all_goals
     go_wp2
     go_ret2
     exact⟨get_some HR (by have:=ah HV;omega) (by have:=ah HK;omega),by first|exact hbel|exact((Below.refl _ _).drew).trans hbel⟩):P:=h
theorem WB(h:P:=by
 have hwl:=aA h.blk;obtain⟨K,no,k,nn,⟨mK,mF,mT,mI,mL,mk,mN⟩⟩:=o;dsimp only at *;subst hK;have HW0:=Hq h;clear h;go_enter Tryz.func112,Tryz.ntmps112
 go_upto_region 2 with fail;refine wp_at (λW hW=>?_);exact Kr119):P:=h
theorem amA.Kr119(h:P:=by
 obtain⟨_,e2,e3⟩:=iw w (.cells (bY K no k nn 2 mF mT mI mL mk mN) 34) (.cells (bJ 2 mF mT mI mL mk mN) 32);open ala in exact afr):P:=h
theorem amC.Kr119(h:P:=by
 obtain⟨_,e2,e3⟩:=iw w (.cells (bY K no k nn 1 mF mT mI mL mk mN) 34) (.cells (bJ 1 mF mT mI mL mk mN) 32);open alb in exact afr):P:=h
theorem amD.Kr119(h:P:=by
 obtain⟨_,e2,e3⟩:=iw w (.cells (bY K no k nn 0 mF mT mI mL mk mN) 34) (.cells (bJ 0 mF mT mI mL mk mN) 32);open alc in exact afr):P:=h
theorem ace(h:P:=by
 obtain⟨⟨p0,p1,p2,p3,p4,p5,p6,p7,p8,p9,mP⟩,_⟩:=aU HO;obtain⟨c0,c1,c2,c3,c4,c5,c6,c7,c8⟩:=nine HN;have hol:=aA HO;have hnl:=aA HN;go_wp2_with fail;refine(K7 W0 Kt.at.r).mono ?_;rintro e W1 ⟨rfl,hb1⟩;have jZ:=Hq (ay HN hb1);have SH:=Hq (ay HO hb1);have ow:=Hq (ay HR hb1);have HB1:=Hq (HB0.trans (hb1.mono HB0.size));exact Kr120):P:=h
theorem amE.Kr120(h:P:=by
 clear hb1 c0 c1 c2 c3 c4 c5 c6 c7 c8 p0 p1 p2 p3 p4 p5 p6 p7 p8 p9 mP hnl hol K7 HN HO HR Kt HB0;obtain⟨⟨p0,p1,p2,p3,p4,p5,p6,p7,p8,p9,mP⟩,_⟩:=aU SH;obtain⟨c0,c1,c2,c3,c4,c5,c6,c7,c8⟩:=nine jZ;have hol:=aA SH;have hnl:=aA jZ;have hrl:=aA ow;go_upto_region 9 with fail;refine wp_at (λW2 hW2=>?_);have hbw2:=aj W1 (.cells (dX no k nn 1) 97);have hq2:=heap_alloc_new W1 (.cells (dX no k nn 1) 97);rw [<-hW2] at hbw2 hq2;have jE:=Hq (ay jZ hbw2);have EF:=Hq (ay SH hbw2);have jk:=Hq (ay ow hbw2);have ae9:=Hq hq2;have HB2:=Hq (HB1.trans (hbw2.mono HB1.size));have hqb:w.heap.size+2 < W1.heap.size:=hrl;clear hW2 hbw2 hq2 c0 c1 c2 c3 c4 c5 c6 c7 c8 p0 p1 p2 p3 p4 p5 p6 p7 p8 p9 mP jZ SH ow HB1 hnl hol hrl;obtain⟨⟨p0,p1,p2,p3,p4,p5,p6,p7,p8,p9,mP⟩,_⟩:=aU EF;obtain⟨c0,c1,c2,c3,c4,c5,c6,c7,c8⟩:=nine jE;have hol:=aA EF;have hnl:=aA jE;have hql:=aA ae9;go_wp2_with fail;refine(SS W2 (jP.kc (k:=9) (KC.of_below HB2) Aaa).at.p).mono ?_;rintro e W3 ⟨v3,rfl,af3,hrow3,hb3⟩;obtain⟨av,cv,rfl,_⟩:=GR.own_at (enc:=fE) (sz:=4) aZ hrow3;have HRW:=Hq (LO.own (en:=fE) hrow3);have kS:=Hq (ay jE hb3);have IL:=Hq (ay EF hb3);have kU:=Hq (ay jk hb3);have Pf:=Hq (ay ae9 hb3);have HB3:=Hq (HB2.trans (hb3.mono HB2.size));clear hb3 af3 hrow3 SS jE EF jk ae9 HB2 c0 c1 c2 c3 c4 c5 c6 c7 c8 p0 p1 p2 p3 p4 p5 p6 p7 p8 p9 mP hnl hol;obtain⟨c0,c1,c2,c3,c4,c5,c6,c7,c8⟩:=nine kS;obtain⟨q0,q1,q2,q3⟩:=fQ Pf;have cf:=au kS 4;have qf:=au Pf 3;exact Kr14):P:=h
theorem amF.Kr120(h:P:=by
 have xq:=Hq (Kt.kc (k:=9) (KC.of_below hb1) Aaa);clear hb1 c0 c1 c2 c3 c4 c5 c6 c7 c8 p0 p1 p2 p3 p4 p5 p6 p7 p8 p9 mP hnl hol K7 HN HO HR Kt HB0;obtain⟨g,off,e0,hg,q0,q1,q2,q3⟩:=iU.four xq.at.r i hi;rw [ah ahb] at q0 q1 q2 q3;clear ahb;obtain⟨rno,rk,rn,rs⟩:=rq;exact Kr4):P:=h
theorem Rj(h:P:=by
 clear HNk HYk;go_wp2_with fail;refine(HCk wr HB).mono ?_;rintro e w1 ⟨rfl,hb1⟩;have HB1:=Hq (HB.trans (hb1.mono HB.size));rw [hq];exact Kr121):P:=h
theorem amG.Kr121(h:P:=by
 clear hb1 q0 q1 q2;exact aeb):P:=h
theorem amH.Kr121(h:P:=by
 clear hb1 q0 q1 q2;go_wp2_with fail;go_ret;exact⟨rfl,HB1⟩):P:=h
theorem amI.Kr121(h:P:=by
 clear hb1 q0 q1 q2 q3;exact aeb):P:=h
theorem amJ.Kr121(h:P:=by
 clear hb1 q0 q1 q2 q3;go_wp2_with fail;go_ret;exact⟨Aac,HB1⟩):P:=h
theorem acf(h:P:=by
 clear TJ HRW;clear c0 c1 c2 c3 c4 c5 c6 c7 c8 q0 q1 q2 q3 cf qf kS IL kU Pf HB3;have HA4:=Hq (jP.kc (k:=9) (KC.of_below pE) Aaa).at.r;obtain⟨c0,c1,c2,c3,c4,c5,c6,c7,c8⟩:=nine zq;obtain⟨⟨p0,p1,p2,p3,p4,p5,p6,p7,p8,p9,mP⟩,_⟩:=aU aas;have hnl:=aA zq;have hol:=aA aas;have hile:=vB n.reqs no;go_upto_block 0 with fail;exact Kr122):P:=h
theorem amK.Kr122(h:P:=by
 go_cut [10] from 11 (λi wx=>i= .int .i64 (dP n.reqs no:Nat)/\Ge W4 wx)
 case first=>
  exact asn
 case rest=>
  open apy in exact ac8):P:=h
theorem amL.Kr122(h:P:=by
 go_cut [10] from 11 (λi wx=>i= .int .i64 (dP n.reqs no:Nat)/\Ge W4 wx)
 case first=>
  exact asn
 case rest=>
  open apx in exact ac8):P:=h
theorem acg(h:P:=by
 have q3s:=XJ (g:=w.heap.size+2) (i:=3) (b0:= .int .i64 n.id) (b1:= .int .i64 n.par) (b2:= .slice a_k n.kids.length aJ) (b3:= .int .i64 n.next) (b4:= .slice av RL.length cv) (b5:= .slice dR n.out.length aO) (b6:= .slice dY n.seen.length aK) (b7:= .int .i64 n.old) (b8:= .slice (some ⟨gv,0,none⟩) (n.reqs.length+1) vc) (show w.heap.size+2≠W1.heap.size by omega) O7;exact Kr123):P:=h
theorem amM.Kr123(h:P:=by
 open aiO in exact Lr):P:=h
theorem amN.Kr123(h:P:=by
 go_simp;refine aF 1 rfl Aab Aad ?_;open aiP in exact Lr):P:=h
theorem ach(h:P:=by
 have q3s:=XJ (g:=w.heap.size+2) (i:=3) (b0:= .int .i64 n.id) (b1:= .int .i64 n.par) (b2:= .slice a_k n.kids.length aJ) (b3:= .int .i64 n.next) (b4:= .slice av RL.length cv) (b5:= .slice dR n.out.length aO) (b6:= .slice dY n.seen.length aK) (b7:= .int .i64 IH.no) (b8:= .slice (some ⟨g8,0,none⟩) n.reqs.length CV) (show w.heap.size+2≠W1.heap.size by omega) O7;exact Kr124):P:=h
theorem amO.Kr124(h:P:=by
 open aiM in exact Lr):P:=h
theorem amP.Kr124(h:P:=by
 go_simp;refine aF 1 rfl Aab Aad ?_;open aiN in exact Lr):P:=h
theorem aci(h:P:=by
 go_wp2_with fail;refine(HP _).mono ?_;rintro e w5 ⟨rfl,hb5⟩;have hR5:=aI HR hb5;have hM5:=aI HMB hb5;have hB5:=HB.trans (hb5.mono HB.size);have axV:=cu hM5;have axX:=cu hR5;obtain⟨⟨d0,d1,d2,d3,d4,d5,d6⟩,f0,f1,f2,f3,f4,f5,f6⟩:=dG hR5;have Vq:=Hq hR5;have jW:=Hq hB5;clear hb5 HR HMB HB q0 q1 q2 q3 q4 q5 q6 HP hzM hzR;exact Kr125):P:=h
theorem amQ.Kr125(h:P:=by
 cases hp:bX ⟨s[0].toNat,N1,N2,N3,N4,TX,N5⟩
 case' false=>
  have hO:OK=false:=by rw [ah HO,hp];simp
  have rR:=Hq (HZ hO)
  clear hO HO HZ HM hM5 hR5 hB5 hp
  go_wp2_with fail
  refine bodyPost_at (λW' hW'=>?_)
  obtain⟨⟨r0,r1,r2,r3,r4,r5,r6⟩,_⟩:=dG (show W'.heap[w.heap.size]?=some (.cells (bJ 0 0 0 0 0 ⟨#[]⟩ 0) 32 (0,0)) by rw [hW'];exact mJ Vq)
  have hbb:aX w W':=Adi
  exact bodyPost_ret (v:= .tuple #[.agg (bJ 0 0 0 0 0 ⟨#[]⟩ 0),.bool false]) Adf rfl ⟨Aav,hbb⟩
 have hO:OK=true:=by rw [ah HO,decide_eq_true (ah HE),hp];rfl
 have rR:=Hq (HM hO);obtain⟨q0,q1,q2,q3,q4,q5,q6⟩:=rH hM5;clear hO HO HZ HM hM5 hR5 hB5 hp;open anS in exact acH):P:=h
theorem amR.Kr125(h:P:=by
 by_cases hp:jq ⟨s[0].toNat,N1,N2,N3,N4,TX,N5⟩=s
 case' neg=>
  have hO:OK=false:=by rw [ah HO,decide_eq_false hp];simp
  have rR:=Hq (HZ hO)
  have hq:((jq ⟨s[0].toNat,N1,N2,N3,N4,TX,N5⟩).toList == s.toList)=false:=by
   exact adZ
  clear hO HO HZ HM hM5 hR5 hB5
  generalize jq ⟨s[0].toNat,N1,N2,N3,N4,TX,N5⟩=pm at *
  have HP:=Hq hp
  clear hp
  go_wp2_with fail
  refine bodyPost_at (λW' hW'=>?_)
  obtain⟨⟨r0,r1,r2,r3,r4,r5,r6⟩,_⟩:=dG (show W'.heap[w.heap.size]?=some (.cells (bJ 0 0 0 0 0 ⟨#[]⟩ 0) 32 (0,0)) by rw [hW'];exact mJ Vq)
  have hbb:aX w W':=Adi
  exact bodyPost_ret (v:= .tuple #[.agg (bJ 0 0 0 0 0 ⟨#[]⟩ 0),.bool false]) Adg rfl ⟨Aav,hbb⟩
 have hO:OK=true:=by rw [ah HO,decide_eq_true hE,decide_eq_true hp];rfl
 have rR:=Hq (HM hO);have hq:((jq ⟨s[0].toNat,N1,N2,N3,N4,TX,N5⟩).toList == s.toList)=true:=by rw [hp];simp
 obtain⟨q0,q1,q2,q3,q4,q5,q6⟩:=rH hM5;clear hO HO HZ HM hM5 hR5 hB5;have HP:=Hq hp;clear hp;generalize jq ⟨s[0].toNat,N1,N2,N3,N4,TX,N5⟩=pm at *;open anR in exact acH):P:=h
theorem Rk(h:P:=by
 go_simp;refine⟨Below.refl _ _,?_⟩;refine yX Aab (λx3 hx3=>?_);have hg3:=Ge.trans (Ge.trans hx hx2) hx3;clear O7;exact Kr126):P:=h
theorem amS.Kr126(h:P:=by
 have uS:=Hq (ay jl hg3);open auK in exact Vu):P:=h
theorem amT.Kr126(h:P:=by
 have uS:=Hq (ay kJ hg3);open auN in exact Vu):P:=h
theorem amU.Kr126(h:P:=by
 have uS:=Hq (ay jl hg3);open auE in exact Vu):P:=h
theorem amV.Kr126(h:P:=by
 have uS:=Hq (ay kJ hg3);open auH in exact Vu):P:=h
theorem acj(h:P:=by
 obtain⟨d0,d1,d2,d3,d4,d5,d6,d7,d8⟩:=nine wu;have f0:=au wu 0;have f1:=au wu 1;have f2:=au wu 2;have f3:=au wu 3;have f4:=au wu 4;have f5:=au wu 5;have f6:=au wu 6;have f7:=au wu 7;have f8:=au wu 8;have hrl:=aA wu;exact Kr127):P:=h
theorem amW.Kr127(h:P:=by
 go_simp;refine aF 4 rfl Aab Aad ?_;go_simp;refine aF 6 rfl Aab Aad ?_;go_simp;refine aF 7 rfl Aab Aad ?_;go_simp;refine wpAny_done Aab ?_;go_simp;clear d0 d1 d2 d3 d4 d5 d6 d7 d8 f0 f1 f2 f3 f4 f5 f6 f7 f8;go_wp2_with fail;refine aN (λW' hW'=>?_)
 obtain⟨SW,hSW,hsz,hk0,e3⟩:∃SW:World,W'=SW.alloc (.cells (bJ qK qF qT qI qL qk qN) 32)/\SW.heap.size=z.heap.size/\aC [w.heap.size+1] z SW/\SW.heap[w.heap.size+1]?=some (.cells (fK n.id n.par a_k n.kids.length aJ (n.next+1) av RL.length cv a6 (n.out.length+1) c6 dY n.seen.length aK n.old fU n.reqs.length aP) 30 (0,0)):=
  ⟨GR.setW z (w.heap.size+1) 0 (fK n.id n.par a_k n.kids.length aJ (n.next+1) av RL.length cv a6 (n.out.length+1) c6 dY n.seen.length aK n.old fU n.reqs.length aP).toList,hW',by simp[GR.setW],aL (fK n.id n.par a_k n.kids.length aJ (n.next+1) av RL.length cv a6 (n.out.length+1) c6 dY n.seen.length aK n.old fU n.reqs.length aP).toList z 0,GR.setW_blk (fK n.id n.par a_k n.kids.length aJ (n.next+1) av RL.length cv a6 (n.out.length+1) c6 dY n.seen.length aK n.old fU n.reqs.length aP).toList (o:=0) (xs:=gu.toList) wu⟩
 have e4:W'.heap[w.heap.size+1]?=some (.cells (fK n.id n.par a_k n.kids.length aJ (n.next+1) av RL.length cv a6 (n.out.length+1) c6 dY n.seen.length aK n.old fU n.reqs.length aP) 30 (0,0)):=by rw [hSW];exact ay e3 (aj SW _)
 have fH:aC [w.heap.size+1] z W':=by rw [hSW];exact hk0.trans (aC.of_below (aj SW _))
 have hm:W'.heap[z.heap.size]?=some (.cells (bJ qK qF qT qI qL qk qN) 32 (0,0)):=by rw [hSW,<-hsz];exact heap_alloc_new SW _
 have HFI:=Hq (Bg W' z.heap.size ((aC.of_below HZ).trans fH) hm (by have:=aA wu;omega));obtain⟨x0,x1,x2,x3,x4,x5,x6,x7,x8⟩:=nine e4;clear hW' e4 fH hm hSW hsz hk0 e3;exact bodyPost_ret (v:= .tuple #[.agg (fK n.id n.par a_k n.kids.length aJ (n.next+1) av RL.length cv a6 (n.out.length+1) c6 dY n.seen.length aK n.old fU n.reqs.length aP),.slice (some ⟨z.heap.size,0,none⟩) 1 1,.int .i64 0]) Adb rfl ⟨⟨a_k,av,a6,dY,fU,aJ,cv,c6,aK,aP⟩,some ⟨z.heap.size,0,none⟩,1,by rw [ah HNV],HFI.1,HFI.2.1,HFI.2.2.1,HFI.2.2.2⟩):P:=h
theorem amX.Kr127(h:P:=by
 refine aF 5 rfl Aab Aad ?_;go_simp;refine aF 6 rfl Aab Aad ?_;go_simp;refine aF 7 rfl Aab Aad ?_;go_simp;refine wpAny_done Aab ?_;go_simp;clear d0 d1 d2 d3 d4 d5 d6 d7 d8 f0 f1 f2 f3 f4 f5 f6 f7 f8 hrl;go_wp2_with fail;refine aN (λW' hW'=>?_)
 have e4:W'.heap[w.heap.size+1]?=some (.cells (fK n.id n.par a_k n.kids.length aJ (n.next+1) av RL.length cv a6 (n.out.length+1) c6 dY n.seen.length aK n.old fU n.reqs.length aP) 30 (0,0)):=by
  rw [hW'];exact GR.setW_blk (fK n.id n.par a_k n.kids.length aJ (n.next+1) av RL.length cv a6 (n.out.length+1) c6 dY n.seen.length aK n.old fU n.reqs.length aP).toList (o:=0) (xs:=gu.toList) wu
 have fH:aC [w.heap.size+1] z2 W':=by
  rw [hW'];exact aL (fK n.id n.par a_k n.kids.length aJ (n.next+1) av RL.length cv a6 (n.out.length+1) c6 dY n.seen.length aK n.old fU n.reqs.length aP).toList z2 0
 have HFI:=Hq (Bg W' z.heap.size ((aC.of_below HZ2).trans fH) (fH.obj HM2 (λhm=>by have:z.heap.size=w.heap.size+1:=Abc;omega)) Aaa);obtain⟨x0,x1,x2,x3,x4,x5,x6,x7,x8⟩:=nine e4;clear hW' e4 fH;exact bodyPost_ret (v:= .tuple #[.agg (fK n.id n.par a_k n.kids.length aJ (n.next+1) av RL.length cv a6 (n.out.length+1) c6 dY n.seen.length aK n.old fU n.reqs.length aP),.slice (some ⟨z.heap.size,0,none⟩) 1 1,.int .i64 0]) Adb rfl ⟨⟨a_k,av,a6,dY,fU,aJ,cv,c6,aK,aP⟩,some ⟨z.heap.size,0,none⟩,1,by rw [ah HNV],HFI.1,HFI.2.1,HFI.2.2.1,HFI.2.2.2⟩):P:=h
theorem acn(h:P:=by
 have hnl:=aA HN;have hol:=aA HO;go_wp2_with fail;refine(lS W1 HB1).mono ?_;rintro e W2 ⟨rfl,hb2⟩;have jE:=Hq (ay HN hb2);have EF:=Hq (ay HO hb2);have jk:=Hq (ay HR hb2);have HB2:=Hq (HB1.trans (hb2.mono HB1.size));clear hb2 c0 c1 c2 c3 c4 c5 c6 c7 c8 p0 p1 p2 p3 p4 p5 p6 p7 p8 p9 mP hnl hol lS HN HO HR HB1;exact Kr128):P:=h
theorem amY.Kr128(h:P:=by
 obtain⟨⟨p0,p1,p2,p3,p4,p5,p6,p7,p8,p9,mP⟩,_⟩:=aU EF;have hol:=aA EF;go_wp2_with fail;refine(Ez W2).mono ?_;rintro e W4 ⟨rfl,hb4⟩;have Bp:=Hq (ay jE hb4);have ae6:=Hq (ay EF hb4);have xE:=Hq (ay jk hb4);have jW:=Hq (HB2.trans (hb4.mono HB2.size));clear hb4 p0 p1 p2 p3 p4 p5 p6 p7 p8 p9 mP hol Ez jE EF jk HB2;obtain⟨c0,c1,c2,c3,c4,c5,c6,c7,c8⟩:=nine Bp;have hnl:=aA Bp;go_wp2_with fail;refine(Bf W4 jW).mono ?_;exact Kr55):P:=h
theorem amZ.Kr128(h:P:=by
 obtain⟨c0,c1,c2,c3,c4,c5,c6,c7,c8⟩:=nine jE;have hnl:=aA jE;go_wp2_with fail;refine(Bf W2 HB2).mono ?_;rintro e W3 ⟨A1,G1,cc,rfl,ES,hb3,_,_⟩;have kU:=Hq (ay jk hb3);have HB3:=Hq (HB2.trans (hb3.mono HB2.size));have jP:=Hq ES;have hrs:=aA jk;clear hb3 ES c0 c1 c2 c3 c4 c5 c6 c7 c8 hnl Bf jE EF jk;exact asr):P:=h
theorem aco(h:P:=by
 obtain⟨d0,d1,d2,d3,d4,d5,d6,d7,d8⟩:=nine kU;have f0:=au kU 0;have f1:=au kU 1;have f2:=au kU 2;have f3:=au kU 3;have f4:=au kU 4;have f5:=au kU 5;have f6:=au kU 6;have f7:=au kU 7;have f8:=au kU 8;have hrl:=aA kU;go_wp2_with fail;refine aN (λW' hW'=>?_);exact Kr129):P:=h
theorem am0.Kr129(h:P:=by
 have e4:W'.heap[w.heap.size+2]?=some (.cells (dH N1 A1) 30 (0,0)):=by
  rw [hW'];exact GR.setW_blk (dH N1 A1).toList (o:=0) (xs:=gu.toList) kU
 have fH:aC [w.heap.size+2] W3 W':=by
  rw [hW'];exact aL (dH N1 A1).toList W3 0
 have HAT:=Hq (λW'' (ho:Out c w W' W'')=>(show RM W'' A1 N1 from(by
  obtain⟨F,hk,hF⟩:=ho
  exact Vz _ ⟨(w.heap.size+2)::F,aC.trans (b:=W') (fH.mono (λx hx=>Aba)) (hk.mono (λx hx=>Abb)),λy hy=>by
   rcases List.mem_cons.1 hy with h1|h1
   .exact Ru
   .exact⟨Nat.lt_of_lt_of_le (hF y h1).1 h02,by rw [dW (hF y h1).1];exact(hF y h1).2⟩⟩)))
 have HMT:=Hq (λW'' (ho:Out c w W' W'')=>(show GR.At jF 7 W'' ma L1 from(by
  obtain⟨F,hk,hF⟩:=ho
  exact aaj _ ⟨(w.heap.size+2)::F,aC.trans (b:=W') (fH.mono (λx hx=>Aba)) (hk.mono (λx hx=>Abb)),λy hy=>by
   rcases List.mem_cons.1 hy with h1|h1
   .exact Ru
   .exact⟨Nat.lt_of_lt_of_le (hF y h1).1 h02,by rw [dW (hF y h1).1];exact(hF y h1).2⟩⟩)))
 have lQ:Hid (Below B w W'):=HB3.trans (fH.below (λx hx=>by have:x=w.heap.size+2:=Aaf;omega) (Nat.le_trans hB HB3.size));have rG:=Hq (Apart.keeps (c:=c) HK3 HB3.size fH (λx hx=>by have:x=w.heap.size+2:=Aaf;omega));obtain⟨x0,x1,x2,x3,x4,x5,x6,x7,x8⟩:=nine e4;clear hW' e4 fH;exact bodyPost_ret (v:= .tuple #[(fI N1 A1),.slice ma L1.length mc,.int .i64 Au]) Abt rfl ⟨A1,ma,mc,rfl,HAT,HMT,lQ,rG⟩):P:=h
theorem am1.Kr129(h:P:=by
 have e4:W'.heap[w.heap.size+2]?=some (.cells (dH n A1) 30 (0,0)):=by
  rw [hW'];exact GR.setW_blk (dH n A1).toList (o:=0) (xs:=gu.toList) kU
 have hkc:KC cc 0 W3 W':=by
  rw [hW'];exact KC.setW (o:=0) (dH n A1).toList (jP.lo _ hrs)
 have HAT:=Hq (λW'' (ho:Co w W' W'')=>((jP.kc0 hkc).kc0 (ho.kc (λx hx=>jP.lo x Aaa))).rm)
 have lQ:Hid (aX w W'):=by
  rw [hW'];exact GR.setW_below Aaa (dH n A1).toList (o:=0) HB3
 obtain⟨x0,x1,x2,x3,x4,x5,x6,x7,x8⟩:=nine e4;clear hW' e4 hkc;exact bodyPost_ret (v:= .tuple #[(fI n A1),.slice (some ⟨W0.heap.size,0,none⟩) 0 0,.int .i64 3]) Aaz rfl ⟨A1,some ⟨W0.heap.size,0,none⟩,0,rfl,HAT,λW'' _ i hi=>Aas,lQ⟩):P:=h
theorem acp(h:P:=by
 obtain⟨d0,d1,d2,d3,d4,d5,d6,d7,d8⟩:=nine jl;have f0:=au jl 0;have f1:=au jl 1;have f2:=au jl 2;have f3:=au jl 3;have f4:=au jl 4;have f5:=au jl 5;have f6:=au jl 6;have f7:=au jl 7;have f8:=au jl 8;have hrl:=aA jl;go_wp2_with fail;refine aN (λW' hW'=>?_);exact Kr130):P:=h
theorem am2.Kr130(h:P:=by
 have e4:W'.heap[w.heap.size+2]?=some (.cells (dH n A1) 30 (0,0)):=by
  rw [hW'];exact GR.setW_blk (dH n A1).toList (o:=0) (xs:=gu.toList) jl
 have fH:aC [w.heap.size+2] W5 W':=by
  rw [hW'];exact aL (dH n A1).toList W5 0
 have HAT:=Hq (λW'' (ho:Co w W' W'')=>((Pd.kc (k:=9) (KC.keeps fH (λx hx=>by have:x=w.heap.size+2:=Aaf;rw [this];exact wY)) Aaa).kc (k:=9) (ho.kc (λx hx=>VG x Aaa)) Aaa).rm);open aqP in exact adE):P:=h
theorem am3.Kr130(h:P:=by
 have e4:W'.heap[w.heap.size+2]?=some (.cells (dH N1 A2) 30 (0,0)):=by
  rw [hW'];exact GR.setW_blk (dH N1 A2).toList (o:=0) (xs:=gu.toList) jl
 have fH:aC [w.heap.size+2] W5 W':=by
  rw [hW'];exact aL (dH N1 A2).toList W5 0
 have HAT:=Hq (λW'' (ho:Co w W' W'')=>Vz W'' (ho.out (c:=c) (fH) hrx VG));have HMT:=Hq (λW'' (ho:Co w W' W'')=>aaj W'' (ho.out (c:=c) (fH) hrx VG));open aqO in exact adE):P:=h
theorem acr(h:P:=by
 have hno:∀(listed:Array Bool),pR md ops listed->i∈Region.ready md ops listed->E∉Region.ready md ops listed:=λlisted hcl hr hEr=>by
  have h3:=CQ hcl hEr n i hE
  have h4:=(mem_ready.1 hr).1
  rcases Nat.lt_or_ge i listed.size with h'|h'
  .simp[h'] at h3 h4;rw [h4] at h3;cases h3
  .simp[Array.getElem?_eq_none h'] at h3
 intro fuel;exact Kr131):P:=h
theorem am4.Kr131(h:P:=by
 induction fuel with
 |zero=>
  intro listed a w hcl _ hr hy H
  refine λx hx=>⟨λh=>Abh,λj hj=>⟨λe=>absurd (e▸hj) (hno listed hcl hr),λ_=>?_⟩⟩
  by_cases hji:j=i
  .exact aeA
  .exact Rt
 |succ fuel ih=>
  intro listed a w hcl hfree hr hy H
  refine λx hx=>⟨λh=>Abh,λj hj=>⟨λe=>absurd (e▸hj) (hno listed hcl hr),λhjE=>?_⟩⟩
  by_cases hji:j=i
  .exact aeA
  .have h1:=((H x hx).2 j (ready_mono hj hji)).2 hjE;exact asu):P:=h
theorem am5.Kr131(h:P:=by
 induction fuel with
 |zero=>
  intro listed a w hb hcl _ hr hy H
  refine λx hx=>⟨λh=>Abh,λj hj=>⟨λe=>absurd (e▸hj) (hno listed hcl hr),λ_=>?_⟩⟩
  by_cases hji:j=i
  .exact ad7
  .exact Rt
 |succ fuel ih=>
  intro listed a w hb hcl hfree hr hy H
  refine λx hx=>⟨λh=>Abh,λj hj=>⟨λe=>absurd (e▸hj) (hno listed hcl hr),λhjE=>?_⟩⟩
  by_cases hji:j=i
  .exact ad7
  .have h1:=((H x hx).2 j (ready_mono hj hji)).2 hjE;open aiz in exact afj):P:=h
theorem acs(h:P:=by
 obtain⟨d0,d1,d2,d3,d4,d5,d6,d7,d8⟩:=nine Kw;have f0:=au Kw 0;have f1:=au Kw 1;have f2:=au Kw 2;have f3:=au Kw 3;have f4:=au Kw 4;have f5:=au Kw 5;have f6:=au Kw 6;have f7:=au Kw 7;have f8:=au Kw 8;have hrl:=aA Kw;go_simp;exact Kr132):P:=h
theorem am6.Kr132(h:P:=by
 have hkx:aC [w.heap.size+2] x (GR.setW x (w.heap.size+2) 0 (dH n A1).toList):=aL (dH n A1).toList x 0;refine⟨hkx.below (λx hx=>by have:x=w.heap.size+2:=Aaf;omega) (by have:=aA Kw;omega),?_⟩;have HK1:=Hq ((aC.of_below hx).trans hkx);have HR1:=Hq (GR.setW_blk (dH n A1).toList (o:=0) (xs:=gu.toList) Kw);clear hx hkx d0 d1 d2 d3 d4 d5 d6 d7 d8 f0 f1 f2 f3 f4 f5 f6 f7 f8 hrl Kw;refine gF 10 rfl Aab Aad Aae (λy hy=>?_);go_simp;have xA:=Hq (HK1.trans (aC.of_below hy));have HR2:=Hq (ay HR1 hy);clear hy HK1 HR1;refine⟨(aj y _).mono (by have:=aA HR2;omega),?_⟩;refine nW Aab (λz hz=>?_);have Gs:=Hq (ay (ay HR2 (aj y (.cells (bJ 0 n.id n.par 0 0 k nn) 32))) hz);have fH:aC [w.heap.size+2] X z:=xA.trans ((aC.of_below (aj y (.cells (bJ 0 n.id n.par 0 0 k nn) 32))).trans (aC.of_below hz));have HMZ:=Hq (ay (heap_alloc_new y (.cells (bJ 0 n.id n.par 0 0 k nn) 32)) hz);have hmb:w.heap.size<=y.heap.size:=by have:=aA HR2;omega
 clear hz xA HR2;open ajp in exact arE):P:=h
theorem am7.Kr132(h:P:=by
 have fH:aC [w.heap.size+2] y (GR.setW y (w.heap.size+2) 0 (dH n A1).toList):=aL (dH n A1).toList y 0;refine⟨fH.below (λx hx=>by have:x=w.heap.size+2:=Aaf;omega) (by have:=aA Kw;omega),?_⟩;clear fH d0 d1 d2 d3 d4 d5 d6 d7 d8 f0 f1 f2 f3 f4 f5 f6 f7 f8 hrl;refine nW Aab (λz hz=>?_);have Gs:=Hq (ay (GR.setW_blk (dH n A1).toList (o:=0) (xs:=gu.toList) Kw) hz);have fH:aC [w.heap.size+2] X z:=(aC.of_below HY).trans ((aL (dH n A1).toList y 0).trans (aC.of_below hz));have HMZ:=Hq (ay ((aL (dH n A1).toList y 0).obj HMY (λhm=>by have:x.heap.size=w.heap.size+2:=Abc;omega)) hz);clear hz HY Kw HMY;have hmb:w.heap.size<=x.heap.size:=Aaa
 open ajq in exact arE):P:=h
theorem acu(h:P:=by
 obtain⟨c0,c1,c2,c3,c4,c5,c6,c7,c8⟩:=nine zl;have k0:=cell_grown' c0;have k1:=cell_grown' c1;have k2:=cell_grown' c2;have k3:=cell_grown' c3;have k4:=cell_grown' c4;have k5:=cell_grown' c5;have k6:=cell_grown' c6;have k7:=cell_grown' c7;have k8:=cell_grown' c8;have m0:=cell_grown' d0;have m1:=cell_grown' d1;have m2:=cell_grown' d2;exact Kr133):P:=h
theorem am8.Kr133(h:P:=by
 have m3:=cell_grown' d3;have en:IntKind.i64.wrap (old+1)=old+1:=IntWalk.i64_in _ ⟨Aaa,Aaa⟩;go_cut [151] (λr wx=>r= .bool bb/\aX W1 wx)
 case first=>
  rcases Bq with⟨rfl,rfl⟩|⟨j,y,rfl,rfl,q1⟩
  .have hgt:decide ((0:Int) < ((0:Nat):Int))=false:=rfl;open auT in exact Yr7
  .have hgt:decide ((0:Int) < ((j+1:Nat):Int))=true:=decide_eq_true Aaa;have m9:=cell_grown' q1;open auS in exact Yr7
 case rest=>
  obtain⟨rfl,hbx⟩:=hcut;open anE in exact Rm):P:=h
theorem am9.Kr133(h:P:=by
 go_cut [64] (λr wx=>r= .bool bb/\aX W1 wx)
 case first=>
  rcases Bq with⟨rfl,rfl⟩|⟨j,y,rfl,rfl,q1⟩
  .have hgt:decide ((0:Int) < ((0:Nat):Int))=false:=rfl;open akf in exact arN
  .have hgt:decide ((0:Int) < ((j+1:Nat):Int))=true:=decide_eq_true Aaa;have m3:=cell_grown' q1;open ake in exact arN
 case rest=>
  obtain⟨rfl,hbx⟩:=hcut;have HW2:=Hq (ay HW1 hbx);open anD in exact Rm):P:=h
theorem acv(h:P:=by
 generalize iB n (L.take k)=m at *;generalize L[k]=oo at *;obtain⟨K,no,kk,nn,⟨mK,mF,mT,mI,mL,mk,mN⟩⟩:=oo;exact Kr134):P:=h
theorem ana.Kr134(h:P:=by
 dsimp only at s0 s1 s2 s3 s4 s5 s6 s7 s8 s9 s10;go_upto_region 7 with fail;refine wp_at (λV hV=>?_);have hbv:aX wr V:=by rw [hV];exact aj _ _
 have HV:=Hq (show V.heap[wr.heap.size]?=some (.cells (bY K no kk nn mK mF mT mI mL mk mN) 34 (0,0)) by rw [hV];exact heap_alloc_new _ _);have xA:=Hq (HK.step hbv);have KF:=Hq (HDk V W0 wb A2 G2 cc3 _ xA HE0);clear hV hbv HK HDk s0 s1 s2 s3 s4 s5 s6 s7 s8 s9 s10;obtain⟨⟨p0,p1,p2,p3,p4,p5,p6,p7,p8,p9,mP⟩,_⟩:=aU HV;go_wp2_with fail;refine KF.mono ?_;rintro e W3 ⟨rfl,A3,G3,cc4,v3,hK3⟩;have HK3:=Hq hK3;obtain⟨q0,q1,q2,q3,q4,q5,q6,q7,q8,q9⟩:=iQ hK3.blk;have f9:=au hK3.blk 9;clear hK3 KF xA HV p0 p1 p2 p3 p4 p5 p6 p7 p8 p9 mP q0 q1 q2 q3 q4 q5 q6 q7 q8;go_wp2_with fail;go_roundw
 case rel=>exact⟨k+1,Aaa,Aai,A3,G3,cc4,by have h:=HK3.mute;rw [ah HPk] at h;exact h⟩
 case measure=>simp[intOf];omega):P:=h
theorem anb.Kr134(h:P:=by
 dsimp only at t0 t1 t2 t3 t4 t5 t6 t7 t8 t9 t10;obtain⟨m',Ms,code⟩:=RR;dsimp only at HPk;unfold jC at aax;dsimp only at aax;have hsz:=HS.siz;obtain⟨c0,c1,c2,c3,c4,c5,c6,c7,c8⟩:=nine HS.blk;have hbl:=aA HS.blk;have u0:=cK (b:=wr.heap.size) hbl c0;have u1:=cK (b:=wr.heap.size) hbl c1;have u2:=cK (b:=wr.heap.size) hbl c2;have u3:=cK (b:=wr.heap.size) hbl c3;have u4:=cK (b:=wr.heap.size) hbl c4;have u5:=cK (b:=wr.heap.size) hbl c5;have u6:=cK (b:=wr.heap.size) hbl c6;have u7:=cK (b:=wr.heap.size) hbl c7;have u8:=cK (b:=wr.heap.size) hbl c8;have x0:=cK (b:=wr.heap.size) hg1 t0;have x1:=cK (b:=wr.heap.size) hg1 t1;have x2:=cK (b:=wr.heap.size) hg1 t2;have x3:=cK (b:=wr.heap.size) hg1 t3;have x4:=cK (b:=wr.heap.size) hg1 t4;have x5:=cK (b:=wr.heap.size) hg1 t5;have x6:=cK (b:=wr.heap.size) hg1 t6;have x7:=cK (b:=wr.heap.size) hg1 t7;have x8:=cK (b:=wr.heap.size) hg1 t8;have x9:=cK (b:=wr.heap.size) hg1 t9;have x10:=cK (b:=wr.heap.size) hg1 t10;clear c0 c1 c2 c3 c4 c5 c6 c7 c8 t0 t1 t2 t3 t4 t5 t6 t7 t8 t9 t10;go_upto_region 6 with fail;go_cut [8] (λq wx=>∃qf A3,q= .pointer (some ⟨qf,0,none⟩)/\wx.heap[qf]?=some (.cells (dH m' A3) 30 (0,0))/\NL (w.heap.size+2) wx A3 m'/\aX wr wx)
 case first=>
  have hwb:wr.heap.size<=wr.heap.size:=Nat.le_refl _;refine lN 13 wr.heap.size Aab ?_;show iR _ _ _ _ _ _ 14 (Array.replicate 14 false) _ _
  refine tk [1,2,3,0,4] ?_;iterate 5 (refine tkB hwb (λK hK=>?_);go_simp;first|refine hK _ ?_|(apply Exists.intro;refine⟨λ_=>?_,hK _ ?_⟩;rfl);clear hK K)
  refine iN ?_;clear hwb u0 u1 u2 u3 u4 u5 u6 u7 u8 x0 x1 x2 x3 x4 x5 x6 x7 x8 x9 x10;have HG0:=Hq (Below.refl wr.heap.size wr);refine jM 5 10 rfl rfl Aab Aad Aad Aae Aae (λx5 hx5=>?_) (λx10 Ub=>?_)
  .have HG:=Hq (Ge.trans HG0 hx5);open alP in exact abW
  .have VJ:=Hq (Ge.trans HG0 Ub);go_simp;refine⟨(aj x10 _).mono VJ.size,?_⟩;have hqV:wr.heap.size<=x10.heap.size:=VJ.size;have atV:=Hq (Ge.trans VJ (aj x10 (.cells gu 30)));have HQ1:=Hq (heap_alloc_new x10 (.cells gu 30));clear Ub;generalize x10.heap.size=qf at *;refine gF 5 rfl Aab Aad Aae (λx5 hx5=>?_);have HG:=Hq (Ge.trans atV hx5);have HQ:=Hq (ay HQ1 hx5);open alO in exact abW
 case rest=>
  obtain⟨qf,A3,rfl,hblk,hNL,hbx⟩:=hcut;have HS2:=Hq (HS.step hbx);have HNL:=Hq hNL;have hB:w.heap.size+2<=B:=hsw;obtain⟨c0,c1,c2,c3,c4,c5,c6,c7,c8⟩:=nine hblk;have hql:=aA hblk;clear hblk hNL hbx HS aax u0 u1 u2 u3 u4 u5 u6 u7 u8 x0 x1 x2 x3 x4 x5 x6 x7 x8 x9 x10;obtain⟨d0,d1,d2,d3,d4,d5,d6,d7,d8⟩:=nine HS2.blk;have f0:=au HS2.blk 0;have f1:=au HS2.blk 1;have f2:=au HS2.blk 2;have f3:=au HS2.blk 3;have f4:=au HS2.blk 4;have f5:=au HS2.blk 5;have f6:=au HS2.blk 6;have f7:=au HS2.blk 7;have f8:=au HS2.blk 8;have hnl:=aA HS2.blk;go_wp2_with fail;go_roundw
  case rel=>exact⟨k+1,Aaa,Aai,A3,by rw [ah HPk];exact HS2.put hB HNL⟩
  case measure=>simp[intOf];omega):P:=h
theorem acw(h:P:=by
 have hp0:w1.cell? ⟨w.heap.size,0,none⟩=some (.string pk):=by rw [cell_of_row w1 _ _ _ _ (0,0) (ah xD)];rfl
 exact Kr135):P:=h
theorem ane.Kr135(h:P:=by
 go_upto_region 7 with fail;go_cut [51] (λr wx=>r= .bool (found l pk)/\∃q,wx=w1.drewN q)
 case first=>
  by_cases hlt:place l pk < l.length
  .have hf:found l pk=(l[place l pk].k.toList == pk.toList):=by
    unfold found;rw [jh,List.drop_eq_getElem_cons hlt]
   obtain⟨g1,o1,e1,hg1,s0,s1,s2,s3⟩:=aH.four (GR.At.below HA HB1) (place l pk) hlt;open aqh in exact adt
  .have hf:found l pk=false:=by
    unfold found;rw [jh,List.drop_eq_nil_of_le Aaa]
   have HF:=Hq hf;have hpos:decide (0 < l.length - place l pk)=false:=decide_eq_false Aaa;have awP:l.length - place l pk=0:=Aaa
   clear hf;go_quiet (fail);go_wp2_with fail;go_meet
   case rel=>exact⟨by rw [ah HF],_,uU w1 _ _⟩
 case rest=>
  obtain⟨rfl,q2,rfl⟩:=hcut;go_upto_if 51 with fail;go_cut [9] (λr wx=>∃(ad':Addr) (cc:Nat),r= .slice (some ad') (jY l pk).length cc/\aH w1 (some ad') (jY l pk)/\∃q,wx=w1.drewN q)
  case first=>
   have HA1:=Hq (GR.At.below HA HB1);cases hf:found l pk
   .have EH:=Hq (tail_not hf);have HAE:=Hq hAe;clear hAe hAd;go_wp2_with fail;go_meet
    case rel=>
     refine⟨ad,cap - place l pk,by rw [ah EH,List.length_drop],?_,_,rfl⟩;rw [ah EH];by_cases hlt:place l pk < l.length
     .rw [ah HAE hlt];exact QS HA1 (place l pk)
     .exact QT (List.drop_eq_nil_of_le Aaa)
   .obtain⟨hlt,htl⟩:=tail_found hf;have EH:=Hq htl;have hae:=hAe hlt;subst hae;clear htl hAe hAd
    obtain⟨ad2,axe,av8⟩:∃ad2:Addr,(if cap - place l pk=1 then some (⟨b,off+place l pk*4,none⟩:Addr) else some ⟨b,off+place l pk*4+4,none⟩)=some ad2/\(place l pk+1 < l.length->ad2=⟨b,off+place l pk*4+4,none⟩):=by
     by_cases h:cap - place l pk=1
     .rw [if_pos h];exact⟨_,rfl,λh2=>Aaa⟩
     .rw [if_neg h];exact⟨_,rfl,λ_=>rfl⟩
    have hone:1<=l.length - place l pk:=Aaa
    go_wp2_with fail;go_meet
    case rel=>
     refine⟨ad2,cap - place l pk - 1,by rw [ah EH,List.length_drop,Nat.sub_sub],?_,_,rfl⟩;rw [ah EH];by_cases hlt2:place l pk+1 < l.length
     .rw [av8 hlt2];have:=QS HA1 (place l pk+1);rwa [show off+(place l pk+1)*4=off+place l pk*4+4 by omega] at this
     .exact QT (List.drop_eq_nil_of_le Aaa)
  case rest=>
   obtain⟨ad',cc,rfl,hta,q3,rfl⟩:=hcut;obtain⟨i0,hi,hz0,hz1,hz2⟩:=info_parts Du;obtain⟨hpf,hpn⟩:=put_flat l ⟨pk,pm,pf,ps⟩;have htl:(l.take (place l pk)).length=place l pk:=Aag
   have hkt:∀q∈iP l ⟨pk,pm,pf,ps⟩,q.k.size<=maxLen:=λq hq=>by
    rcases put_mem' hq with rfl|hq
    .exact hpk
    .exact hk q hq
   go_upto_region 9 with fail;refine Fo.wp_at (λV hV=>?_);have O4:w.heap.size < V.heap.size:=by rw [hV];exact Fo.lt_of_blk xD
   have uR:=Hq (show aX w V by rw [hV];exact HB1.trans ⟨rfl,rfl,rfl,Nat.le_refl _,λ_ _=>rfl⟩);have hblk:V.heap[w.heap.size]?=some (.cells (iL pk pm pf ps) 143 (0,0)):=by rw [hV];exact xD
   have HTA:=Hq (show aH V (some ad') (jY l pk) by rw [hV];exact hta);obtain⟨⟨c0,c1,c2,c3⟩,_⟩:=fJ hblk;have ED:=Hq (λX (hb:aX V X)=>aH.news (GR.At.below HTA hb));have CB:=Hq (λX (hb:aX V X)=>l03Copy (some ⟨b,off,none⟩) cap (l.take (place l pk)) X Aaa (λh=>Aax) (GR.At.below (aac (GR.At.below HA uR) _) hb));have HCA:=Hq (λX (hb:aX w X)=>l03Copy (some ⟨b,off,none⟩) cap l X Aaa (λh=>Aax) (GR.At.below HA hb));have HPF:=Hq hpf;have HPN:=Hq hpn;rw [htl] at CB;have hnw:w.heap.size≠V.heap.size:=Aaa
   have hmw:V.heap.size≠w.heap.size:=Aaa
   have axa:(jY l pk).length<=20:=by
    have h3:=tail_len l pk;omega
   clear hV hblk hta hp0 lS xD htl hAd hAe hpf hpn
   go_region_held_law (λw'=>w'.cell? ⟨w.heap.size,0,none⟩=some (.string pk)/\w'.cell? ⟨w.heap.size,1,none⟩=some (.int .i64 pm)/\w'.cell? ⟨w.heap.size,2,none⟩=some (.int .i64 pf)/\w'.cell? ⟨w.heap.size,3,none⟩=some (.int .i64 ps)) (go_keep)
    (first
     |((go_at_call 114);(refine(CB _ (by exact⟨rfl,rfl,rfl,Aac,λk hk=>by first|rfl|exact Below.heap_alloc _ _ _ hk⟩)).mono ?_);(rintro e w4 ⟨vc,rfl,hv4,xX,hb4⟩);(have hs4:=hb4.size);(try simp at hs4);(have pE:=Hq (show aX V w4 from Below.trans (b:=_) (by exact⟨rfl,rfl,rfl,Aac,λk hk=>by first|rfl|exact Below.heap_alloc _ _ _ hk⟩) (hb4.mono Aac)));(have HO4:=Hq (own_lower (b':=V.heap.size) xX Aac));(first|(guard_hyp hs4:V.heap.size+1<=w4.heap.size;have HN4:=Hq (Fo.one_block (show Below (V.alloc (.cells (iL pk pm pf ps) 143)).heap.size (V.alloc (.cells (iL pk pm pf ps) 143)) w4 from⟨hb4.os,hb4.tape,hb4.output,hb4.size,hb4.block⟩)).1)|skip);(have d0:=(pE.cell (p:=⟨w.heap.size,0,none⟩) O4).trans c0);(have d1:=(pE.cell (p:=⟨w.heap.size,1,none⟩) O4).trans c1);(have d2:=(pE.cell (p:=⟨w.heap.size,2,none⟩) O4).trans c2);(have d3:=(pE.cell (p:=⟨w.heap.size,3,none⟩) O4).trans c3);(have hn4:w.heap.size≠w4.heap.size:=by omega);(have hm4:w4.heap.size≠w.heap.size:=by omega);(clear hb4 xX hv4))
     |((guard_hyp hs4:V.heap.size+1<=w4.heap.size);(refine nL _ rfl (.tmp 57) (.tmp 59) 25 rfl V.heap.size 143 i0 (.agg (iL ByteArray.empty 0 0 0)) 4 40 Tryz.underlying25 hi hz0 hz1 hz2 rfl Aae vc (place l pk) (GR.flat fE (l.take (place l pk))) Aak HO4 ⟨V.heap.size,0,none⟩ 1 1 (fE ⟨pk,pm,pf,ps⟩) Aak rfl (World.news_of_block HN4) (GL ⟨pk,pm,pf,ps⟩) Aah Aaa pE.size ?_);(intro v5 w5 hown5 hgr5 Dj);(have Ku:=Hq hown5);(have HV5:=Hq (show v5≠ .slice none 0 0 by first|exact Dj|exact λh=>absurd (Dj.1 h).2 Aae));(have jW:=Hq (show aX V w5 from pE.trans (rQ hgr5 (λk e=>(HO4.lt k e).1) pE.size)));(have e0:=(jW.cell (p:=⟨w.heap.size,0,none⟩) O4).trans c0);(have e1:=(jW.cell (p:=⟨w.heap.size,1,none⟩) O4).trans c1);(have e2:=(jW.cell (p:=⟨w.heap.size,2,none⟩) O4).trans c2);(have e3:=(jW.cell (p:=⟨w.heap.size,3,none⟩) O4).trans c3);(clear hown5 hgr5 Dj))
     |((guard_hyp hs4:V.heap.size<=w4.heap.size);(refine nL _ rfl (.tmp 57) (.tmp 59) 25 rfl V.heap.size 143 i0 (.agg (iL ByteArray.empty 0 0 0)) 4 40 Tryz.underlying25 hi hz0 hz1 hz2 rfl Aae vc (place l pk) (GR.flat fE (l.take (place l pk))) Aak (HO4.alloc _) ⟨w4.heap.size,0,none⟩ 1 1 (fE ⟨pk,pm,pf,ps⟩) Aak rfl (World.news_of_block (heap_alloc_new w4 _)) (GL ⟨pk,pm,pf,ps⟩) Aah Aaa (Nat.le_trans pE.size Aac) ?_);(intro v5 w5 hown5 hgr5 Dj);(have Ku:=Hq hown5);(have HV5:=Hq (show v5≠ .slice none 0 0 by first|exact Dj|exact λh=>absurd (Dj.1 h).2 Aae));(have jW:=Hq (show aX V w5 from(pE.alloc pE.size _).trans (rQ hgr5 (λk e=>(HO4.lt k e).1) (Nat.le_trans pE.size Aac))));(have e0:=(jW.cell (p:=⟨w.heap.size,0,none⟩) O4).trans c0);(have e1:=(jW.cell (p:=⟨w.heap.size,1,none⟩) O4).trans c1);(have e2:=(jW.cell (p:=⟨w.heap.size,2,none⟩) O4).trans c2);(have e3:=(jW.cell (p:=⟨w.heap.size,3,none⟩) O4).trans c3);(clear hown5 hgr5 Dj))
     |((refine nL _ rfl (.tmp 60) (.tmp 61) 25 rfl V.heap.size 143 i0 (.agg (iL ByteArray.empty 0 0 0)) 4 40 Tryz.underlying25 hi hz0 hz1 hz2 rfl Aae v5 (place l pk+1) (GR.flat fE (l.take (place l pk))++fE ⟨pk,pm,pf,ps⟩) Abz Ku ad' (jY l pk).length cc (GR.flat fE (jY l pk)) Abz (GR.flat_length fE 4 aZ _) (ED _ jW) (xQ _) Aah Aaa jW.size ?_);(intro v6 w6 hown6 pO Mf);(have vI:=Hq (show aX V w6 from jW.trans (rQ pO (λk e=>(Ku.lt k e).1) jW.size)));(have HV6:=Hq (show v6≠ .slice none 0 0 by first|exact λh=>HV5 (Mf.1 h).1|exact λh=>HV5 (Mf h).1));(rw [ah HPF,ah HPN] at hown6);(obtain⟨a6,cap6,rfl,atj⟩:=GR.own_at aZ hown6);(have HO6:=Hq hown6);(have HT6:=Hq atj);(have f0:=(vI.cell (p:=⟨w.heap.size,0,none⟩) O4).trans c0);(have f1:=(vI.cell (p:=⟨w.heap.size,1,none⟩) O4).trans c1);(have f2:=(vI.cell (p:=⟨w.heap.size,2,none⟩) O4).trans c2);(have f3:=(vI.cell (p:=⟨w.heap.size,3,none⟩) O4).trans c3);(clear hown6 pO Mf atj))
     |fail)
   all_goals
    have aeM:(iP l ⟨pk,pm,pf,ps⟩).length<=1048600:=by have:=ah HPN;omega
    have agP:=Hq (uR.trans (vI.mono Aaa))
    have Gt:=Hq (nV a6 cap6 (iP l ⟨pk,pm,pf,ps⟩) w6 aeM hkt HT6)
    clear aeM d0 d1 d2 d3 e0 e1 e2 e3 f0 f1 f2 f3 c0 c1 c2 c3 ED CB
    go_wp2_with fail
    refine Gt.mono ?_
    rintro e w7 ⟨rfl,uf⟩
    have BU:=Hq (agP.trans (uf.mono agP.size))
    have HO7:=Hq (own_lower (b':=w.heap.size) (HO6.kept (row:=none) ⟨uf.os,uf.tape,uf.output,uf.size,λk hk _=>uf.block k hk⟩ (Zg _)) Aaa)
    clear uf Gt
    cases hps:iW (iP l ⟨pk,pm,pf,ps⟩)
    .have HWF:=Hq (show qj l ⟨pk,pm,pf,ps⟩ n=(l,false) by rw [ah HW,hps];rfl);have HCX:=Hq (HCA _ BU);clear hps HW HCA;go_wp2_with fail;refine HCX.mono ?_;rintro e w8 ⟨v8,rfl,hv8,Mh,ET⟩;have HV8:=Hq hv8;have HO8:=Hq (own_lower (b':=w.heap.size) Mh BU.size);have IE:=Hq (BU.trans (ET.mono BU.size));clear Mh ET hv8;go_wp2_with fail;rw [ah HWF];exact bodyPost_ret (v:= .tuple #[v8,.bool false]) Acp rfl ⟨v8,rfl,HV8,HO8,IE⟩
    .have HWF:=Hq (show qj l ⟨pk,pm,pf,ps⟩ n=(iP l ⟨pk,pm,pf,ps⟩,true) by rw [ah HW,hps];rfl);clear hps HW HCA;go_wp2_with fail;rw [ah HWF];exact bodyPost_ret (v:= .tuple #[.slice a6 (iP l ⟨pk,pm,pf,ps⟩).length cap6,.bool true]) Acp rfl ⟨_,rfl,HV6,HO7,BU⟩):P:=h
theorem anf.Kr135(h:P:=by
 by_cases hlt:k < l.length
 .obtain⟨g1,o1,e1,hg1,s0,s1,s2,s3⟩:=aH.four (GR.At.below HA HB1) k hlt;open aqg in exact adt
 .open akt in exact IX):P:=h
theorem acy(h:P:=by
 obtain⟨d0,d1,d2,d3,d4,d5,d6,d7,d8⟩:=nine hres;have f0:=au hres 0;have f1:=au hres 1;have f2:=au hres 2;have f3:=au hres 3;have f4:=au hres 4;have f5:=au hres 5;have f6:=au hres 6;have f7:=au hres 7;have f8:=au hres 8;exact Kr136):P:=h
theorem ang.Kr136(h:P:=by
 clear ES hb2 hres KF xq HR1 c0 c1 c2 c3 c4 c5 c6 c7 c8;go_wp2_with fail;refine aN (λW' hW'=>?_);have e9:W'.heap[w.heap.size+1]?=some (.cells (dH m A1) 30 (0,0)):=by rw [hW'];exact qD oZ
 obtain⟨r0,r1,r2,r3,r4,r5,r6,r7,r8⟩:=nine e9;have jy:NO W' w.heap.size m A1 G1 cc1:=by rw [hW'];exact(jP.keepsN hrl mq).base HB1.size
 have hBB:aX w W':=by rw [hW'];exact oC HB2 Aaa
 exact bodyPost_ret (v:=fI m A1) (by simp[results,Tryz.results23,go_sem,r0,r1,r2,r3,r4,r5,r6,r7,r8]) rfl ⟨A1,G1,cc1,rfl,jy,hBB⟩):P:=h
theorem anh.Kr136(h:P:=by
 clear hres;go_wp2_with fail;refine aN (λW' hW'=>?_);have e9:W'.heap[w.heap.size+1]?=some (.cells (dH m A2) 30 (0,0)):=by rw [hW'];exact qD oZ
 obtain⟨r0,r1,r2,r3,r4,r5,r6,r7,r8⟩:=nine e9;have jy:NO W' w.heap.size m A2 G2 cc3:=by rw [hW'];exact(HK.no.keepsN Aaa mq).base HB.size
 have hBB:aX w W':=by rw [hW'];exact oC (HB.trans (HK.keep.mono HB.size)) Aaa
 exact bodyPost_ret (v:=fI m A2) Ado rfl ⟨A2,G2,cc3,by rw [ah HM],by rw [ah HM];exact jy,hBB⟩):P:=h
theorem acz(h:P:=by
 clear HR;clear ho hk hn;go_enter Tryz.func105,Tryz.ntmps105
 go_wp2_with (first|(go_at_call_of 54 no;refine(HO _).mono ?_;rintro e w1 ⟨rfl,rfl⟩)|(go_at_call_of 131 k;refine(HK _).mono ?_;rintro e w1 ⟨rfl,rfl⟩)|(go_at_call_of 54 n;refine(HN _).mono ?_;rintro e w1 ⟨rfl,rfl⟩))
 exact Kr137):P:=h
theorem ani.Kr137(h:P:=by
 go_region
 go_upto_region 23 with fail;open aoP in exact Rs):P:=h
theorem anj.Kr137(h:P:=by
 go_ret;exact⟨aD (by rw [ah HP];simp),by first|exact jg w _ _|exact Below.setNew (jg w _ _) Aaa⟩):P:=h
theorem WE(h:P:=by
 obtain⟨hil,aa4⟩:=(nA n.reqs o.no).1 hf;have hgd:n.reqs.getD (dP n.reqs o.no) default=n.reqs[dP n.reqs o.no]:=by rw [List.getD_eq_getElem?_getD,List.getElem?_eq_getElem hil];rfl
 exact Kr138):P:=h
theorem ank.Kr138(h:P:=by
 rw [hgd] at hs ⊢;open apu in exact WX):P:=h
theorem anl.Kr138(h:P:=by
 have hR:fF n o.no o.k o.n=(n,if DZ n.reqs[dP n.reqs o.no] o.k o.n=true then 0 else 1):=by
  unfold fF;rw [if_neg hc,if_pos hf,hgd]
 have HSQ:=Hq (show DZ n.reqs[dP n.reqs o.no] o.k o.n=((n.reqs[dP n.reqs o.no].k.toList == o.k.toList)&&decide (n.reqs[dP n.reqs o.no].n=o.n)&&decide (n.reqs[dP n.reqs o.no].s=0)) by unfold DZ;rw [Bool.and_assoc,Bool.and_comm]);have HAD:=Hq hR;generalize fF n o.no o.k o.n=RES at *;have hd:decide (o.no<=n.old)=false:=decide_eq_false hc;open apt in exact WX):P:=h
theorem anm.Kr138(h:P:=by
 rw [hgd] at hs;open aps in exact WX):P:=h
theorem acA(h:P:=by
 rw [hL1] at GY;subst GY;clear TY Qa Di Yq;refine gF 13 rfl Aab Aad Aae (λx5 hx5=>?_);have KI:=Hq (VL.trans (hx5.mono VL.size));have Ml:wc.heap.size<=x5.heap.size:=KI.size;have Lh:=Hq (GR.own_below Pm hx5);have KY:=Hq (ay aaw hx5);clear hx5;exact Kr139):P:=h
theorem ano.Kr139(h:P:=by
 obtain⟨v5,y5,Jl,EY,BA,Ua⟩:=eT bg Aaa x5 wc.heap.size 28 28 97 i0 (.agg (dX 0 ByteArray.empty 0 0)) 40 Tryz.underlying28 hi hz0 hz1 hz2 rfl (.slice avO (pos+1) cvO) (pos+1) (GR.flat aM (n.reqs.take pos++[(⟨no,k,nn,1⟩:Rq)])) Lh AD (n.reqs.drop pos) (aP - pos) (GR.At.below HDR KI) (iy _) Aah Aaa Ml;open anY in exact acI):P:=h
theorem anp.Kr139(h:P:=by
 obtain⟨v5,y5,Jl,EY,BA,Ua⟩:=eT bg Aaa x5 wc.heap.size 28 28 97 i0 (.agg (dX 0 ByteArray.empty 0 0)) 40 Tryz.underlying28 hi hz0 hz1 hz2 rfl (.slice avO (pos+1) cvO) (pos+1) (GR.flat aM (n.reqs.take pos++[(⟨no,k,nn,0⟩:Rq)])) Lh AD (n.reqs.drop pos) (aP - pos) (GR.At.below HDR KI) (iy _) Aah Aaa Ml;open anX in exact acI):P:=h
theorem Rl(h:P:=by
 have hlo:=h.o.lt;have jP:=Hq (h.nine hB);clear h;go_enter Tryz.func40,Tryz.ntmps40
 go_upto_region 1 with fail;refine wp_at (λW0 hW=>?_);exact Kr140):P:=h
theorem anq.Kr140(h:P:=by
 obtain⟨e1,e2,e3⟩:=iw w (.cells (dH n A) 30) (.cells gu 30);open aiB in exact afk):P:=h
theorem anr.Kr140(h:P:=by
 obtain⟨e1,e2,e3⟩:=iw w (.cells (dH n A) 30) (.cells gu 30);open apq in exact ac6):P:=h
theorem ant.Kr140(h:P:=by
 obtain⟨e1,e2,e3⟩:=iw w (.cells (dH n (⟨a_k,(some ⟨gp,0,none⟩),dR,dY,fU,aJ,bq,aO,aK,aP⟩:bH)) 30) (.cells gu 30);open aiC in exact afk):P:=h
theorem anu.Kr140(h:P:=by
 obtain⟨e1,e2,e3⟩:=iw w (.cells (dH n (⟨a_k,iX,dR,dY,fU,aJ,bq,aO,aK,aP⟩:bH)) 30) (.cells gu 30);open aiD in exact afk):P:=h
theorem acB(h:P:=by
 have nG:Hid (Below B w Z9):=by rw [hZ];exact HB9.setCell (p:=⟨w.heap.size,5,none⟩) hB _
 have HKZ:Hid (Apart c w Z9):=by rw [hZ];exact HK9.keeps HB9.size (aC.set _) (λy hy=>by have:y=w.heap.size:=Aar;omega)
 clear hZ HK9 gG SN vZ kJ Pj HB9 c5n s0 s1 s2 s3 c5w f5w hn8 hs8 qp xG Wn hZ8;exact Kr141):P:=h
theorem anw.Kr141(h:P:=by
 have HNV:Hid (fI ⟨n.id,n.par,n.kids,n.next+1,RL,n.out++[⟨n.next,dst,key,most⟩],n.seen,n.old,n.reqs⟩ ⟨a_k,av,a6,dY,fU,aJ,cv,c6,aK,aP⟩= .agg (fK n.id n.par a_k n.kids.length aJ (n.next+1) av RL.length cv a6 (n.out.length+1) c6 dY n.seen.length aK n.old fU n.reqs.length aP)):=by unfold Hid;simp[fI,dH]
 have CG:Hid (∀x,Ge Z9 x->Calls Tryz.prog 51 #[.agg (fK n.id n.par a_k n.kids.length aJ (n.next+1) av RL.length cv a6 (n.out.length+1) c6 dY n.seen.length aK n.old fU n.reqs.length aP),.agg (eU n.next dst key most)] x (eP x (nS PM))):=λx hx=>by
  have h1:=J6 ⟨n.id,n.par,n.kids,n.next+1,RL,n.out++[⟨n.next,dst,key,most⟩],n.seen,n.old,n.reqs⟩ ⟨a_k,av,a6,dY,fU,aJ,cv,c6,aK,aP⟩ ⟨n.next,dst,key,most⟩ x Aag (GR.At.below (Cb Z9 Z9 (aC.refl _ _) Out.refl).at.o hx)
  rw [ah Vo,ah HNV] at h1
  exact h1
 obtain⟨qK,qF,qT,qI,qL,qk,qN⟩:=PM;unfold nS at CG
 have Bg:Hid (∀W' mb,aC [w.heap.size+1] Z9 W'->W'.heap[mb]?=some (.cells (bJ qK qF qT qI qL qk qN) 32 (0,0))->w.heap.size<=mb->(∀W'',Out c w W' W''->RM W'' ⟨a_k,av,a6,dY,fU,aJ,cv,c6,aK,aP⟩ ⟨n.id,n.par,n.kids,n.next+1,RL,n.out++[⟨n.next,dst,key,most⟩],n.seen,n.old,n.reqs⟩)/\(∀W'',Out c w W' W''->GR.At jF 7 W'' (some ⟨mb,0,none⟩) [⟨qK,qF,qT,qI,qL,qk,qN⟩])/\Below B w W'/\Apart c w W'):=λW' mb hk hm hmb=>by
  refine⟨λW'' ho=>Cb W' W'' hk ho,λW'' ho i hi=>?_,nG.trans (hk.below (λx hx=>by have:x=w.heap.size+1:=Aaf;omega) (Nat.le_trans hB nG.size)),HKZ.keeps nG.size hk (λx hx=>by have:x=w.heap.size+1:=Aaf;omega)⟩
  obtain⟨F,hk2,hF⟩:=ho
  have hm2:=hk2.obj hm (λhx=>by have:=(hF mb hx).1;omega)
  refine⟨mb,0,rfl,aA hm2,λj hj=>?_⟩
  have hi0:i=0:=Abn
  subst hi0
  have h1:=cell_of_row W'' mb (0+(0*7+j)) _ _ (0,0) hm2
  rw [h1]
  simp[jF]
 exact Zr6):P:=h
theorem anx.Kr141(h:P:=by
 have HNV:Hid (fI ⟨n.id,n.par,n.kids,n.next+1,RL,n.out++[⟨n.next,dst,key,pf⟩],n.seen,n.old,n.reqs⟩ ⟨a_k,av,a6,dY,fU,aJ,cv,c6,aK,aP⟩= .agg (fK n.id n.par a_k n.kids.length aJ (n.next+1) av RL.length cv a6 (n.out.length+1) c6 dY n.seen.length aK n.old fU n.reqs.length aP)):=by unfold Hid;simp[fI,dH]
 have CG:Hid (∀x,Ge Z9 x->Calls Tryz.prog 51 #[.agg (fK n.id n.par a_k n.kids.length aJ (n.next+1) av RL.length cv a6 (n.out.length+1) c6 dY n.seen.length aK n.old fU n.reqs.length aP),.agg (eU n.next dst key pf)] x (eP x (nS PM))):=λx hx=>by
  have h1:=J6 ⟨n.id,n.par,n.kids,n.next+1,RL,n.out++[⟨n.next,dst,key,pf⟩],n.seen,n.old,n.reqs⟩ ⟨a_k,av,a6,dY,fU,aJ,cv,c6,aK,aP⟩ ⟨n.next,dst,key,pf⟩ x Aag (GR.At.below (Cb Z9 Z9 (aC.refl _ _) Out.refl).at.o hx)
  rw [ah Vo,ah HNV] at h1
  exact h1
 obtain⟨qK,qF,qT,qI,qL,qk,qN⟩:=PM;unfold nS at CG
 have Bg:Hid (∀W' mb,aC [w.heap.size+1] Z9 W'->W'.heap[mb]?=some (.cells (bJ qK qF qT qI qL qk qN) 32 (0,0))->w.heap.size<=mb->(∀W'',Out c w W' W''->RM W'' ⟨a_k,av,a6,dY,fU,aJ,cv,c6,aK,aP⟩ ⟨n.id,n.par,n.kids,n.next+1,RL,n.out++[⟨n.next,dst,key,pf⟩],n.seen,n.old,n.reqs⟩)/\(∀W'',Out c w W' W''->GR.At jF 7 W'' (some ⟨mb,0,none⟩) [⟨qK,qF,qT,qI,qL,qk,qN⟩])/\Below B w W'/\Apart c w W'):=λW' mb hk hm hmb=>by
  refine⟨λW'' ho=>Cb W' W'' hk ho,λW'' ho i hi=>?_,nG.trans (hk.below (λx hx=>by have:x=w.heap.size+1:=Aaf;omega) (Nat.le_trans hB nG.size)),HKZ.keeps nG.size hk (λx hx=>by have:x=w.heap.size+1:=Aaf;omega)⟩
  obtain⟨F,hk2,hF⟩:=ho
  have hm2:=hk2.obj hm (λhx=>by have:=(hF mb hx).1;omega)
  refine⟨mb,0,rfl,aA hm2,λj hj=>?_⟩
  have hi0:i=0:=Abn
  subst hi0
  have h1:=cell_of_row W'' mb (0+(0*7+j)) _ _ (0,0) hm2
  rw [h1]
  simp[jF]
 exact Zr6):P:=h
theorem acC(h:P:=by
 have lQ:Hid (Below B w W'):=tZ.trans (fH.below (λx hx=>by have:x=w.heap.size+2:=Aaf;omega) (Nat.le_trans hB tZ.size));have rG:=Hq (Apart.keeps (c:=c) HKA tZ.size fH (λx hx=>by have:x=w.heap.size+2:=Aaf;omega));obtain⟨x0,x1,x2,x3,x4,x5,x6,x7,x8⟩:=nine e4;clear hW' e4 fH;exact Kr142):P:=h
theorem anz.Kr142(h:P:=by
 exact bodyPost_ret (v:= .tuple #[(fI N1 A1),.slice ma L1.length mc,.int .i64 0]) Abt rfl ⟨A1,ma,mc,rfl,HAT,HMT,lQ,rG⟩):P:=h
theorem anA.Kr142(h:P:=by
 exact bodyPost_ret (v:= .tuple #[.agg (fK n.id n.par A.k n.kids.length A.ck n.next A.p n.pu.length A.cp a (FL n.out.length).length cp A.s n.seen.length A.cs n.old A.r n.reqs.length A.cr),.slice (some ⟨Z.heap.size,0,none⟩) 0 0,.int .i64 0]) Abt rfl ⟨⟨A.k,A.p,a,A.s,A.r,A.ck,A.cp,cp,A.cs,A.cr⟩,some ⟨Z.heap.size,0,none⟩,0,rfl,HAT,λW'' _ i hi=>Aas,lQ,rG⟩):P:=h
theorem acD(h:P:=by
 open apY in exact Xa):P:=h
theorem anB.Kr143(h:P:=by
 exact aso):P:=h
theorem anC.Kr143(h:P:=by
 exact ar7):P:=h
theorem Rm(h:P:=by
 have aeW:=Hq (ay zl hbx);have IG:=Hq (tN.trans (hbx.mono tN.size));exact Kr144):P:=h
theorem anD.Kr144(h:P:=by
 have HI2:=Hq (GR.At.below HI1 hbx);clear hbx d0 d1 d2 c0 c1 c2 c3 c4 c5 c6 c7 c8 k0 k1 k2 k3 k4 k5 k6 k7 k8 m0 m1 m2 HW1 zl tN HI1 Bq HKI;cases hbv:bb
 case' true=>
  have HP:Hid (TT=false):=ah HBAD (by
   rw [ah gG]
   have h:=ah eY
   rw [hbv] at h
   unfold uh
   dsimp only
   cases h1:NN fr<;>cases h2:pv<;>cases h3:fD lo<;>cases h4:decide (ids.length<=40)<;>simp_all)
  clear HBAD gG eY
  subst hbv
  go_wp2_with fail
  go_ret
  exact⟨aD HP.symm,IG⟩
 have HGD:Hid (gQ PP RR (seen.take (k+1))=gQ (zf lo) iA ids):=by
  rw [ah gG];have h:=ah eY;rw [hbv] at h;unfold uh;dsimp only;cases h1:NN fr<;>cases h2:pv<;>cases h3:fD lo<;>cases h4:decide (ids.length<=40)<;>simp_all
 subst hbv;clear gG eY;obtain⟨d0,d1,d2⟩:=three HW2;have axw:=ah Bj;go_wp2_with fail;go_loopw [6] (λi wr2=>∃m:Nat,m<=ids.length/\i= .int .i64 m/\gQ (zf lo) iA (ids.take m)=true/\aX wc wr2) (λi _=>ids.length - (intOf i).toNat)
 case atStart=>exact Xx
 case round=>
  obtain⟨m,hm,rfl,hall,hbx⟩:=hrel;have kE:=Hq hbx;have agJ:=Hq hall;have HW3:=Hq (ay HW2 hbx);obtain⟨d0,d1,d2⟩:=three HW3;clear hall;by_cases hlm:m < ids.length
  case' neg=>
   have hke:m=ids.length:=Aaa
   subst hke
   have hnlt:decide ((ids.length:Int) < (ids.length:Int))=false:=Aac
   have HF:Hid (gQ PP RR (seen.take (k+1))=true):=by
    have h:=ah agJ;rw [List.take_length] at h;exact HGD.trans h
   have HB9:=Hq (ay aeW hbx)
   have HL9:=Hq (IG.trans (hbx.mono IG.size))
   clear hbx
   go_wp2_with fail
   go_roundw
   case rel=>exact⟨k+1,Aaa,Aai,HF,HB9,HL9⟩
   case measure=>simp[intOf];omega
  have HBM:Hid (gQ (zf lo) iA (ids.take (m+1))=false->TT=false):=λh=>HBAD (HGD.trans (nR _ _ _ _ h))
  have HL9:=Hq (IG.trans (hbx.mono IG.size));have XU:=GR.At.below HI2 hbx;clear hbx;cases m with
  |zero=>
   obtain⟨g2,off2,rfl,hg2,q0⟩:=eu.one XU 0 hlm
   rw [Nat.add_zero] at q0
   have hgt:decide ((0:Int) < ((0:Nat):Int))=false:=rfl
   have gG:Hid (gQ (zf lo) iA (ids.take (0+1))=zf lo ids[0]):=qE (zf lo) iA ids hlm
   clear XU
   generalize ids[0]=x at *
   cases h1:decide (lo<=x/\x<=1000000000)
   case' false=>
    have HV:=Hq (HBM (by rw [ah gG];simp[zf,h1]))
    clear gG HBM
    go_wp2_with fail
    refine wp_region_quiet_lit Aab Aab ?_
    repeat (first|go_big_quiet_step ((first|(go_at_call 63;exact qIn _ _ _ _ h1 _ _)))|quiet_step ((first|(go_at_call 63;exact qIn _ _ _ _ h1 _ _))))
    refine wpQuiet_nil ?_
    intro _ hw'
    obtain⟨nq,hw''⟩:=hw'
    subst hw''
    go_wp2_with fail
    go_ret
    exact⟨aD HV.symm,HL9.trans ⟨rfl,rfl,rfl,Nat.le_refl _,λ_ _=>rfl⟩⟩
   have HV:=Hq (show gQ (zf lo) iA (ids.take (0+1))=true by rw [ah gG];simp[zf,h1])
   clear gG HBM
   go_wp2_with fail
   refine wp_region_quiet_lit Aab Aab ?_
   repeat (first|go_big_quiet_step ((first|(go_at_call 63;exact qIn _ _ _ _ h1 _ _)))|quiet_step ((first|(go_at_call 63;exact qIn _ _ _ _ h1 _ _))))
   refine wpQuiet_nil ?_
   intro _ hw'
   obtain⟨nq,hw''⟩:=hw'
   subst hw''
   go_wp2_with fail
   go_roundw
   case rel=>exact⟨0+1,Aaa,Aai,HV,kE.trans ⟨rfl,rfl,rfl,Nat.le_refl _,λ_ _=>rfl⟩⟩
   case measure=>simp[intOf];omega
  |succ j=>
   obtain⟨g2,off2,e1,hg2,q0⟩:=eu.one XU (j+1) hlm
   obtain⟨g3,axZ,e2,hg3,q1⟩:=eu.one XU j Aaa
   rw [e1] at e2
   injection e2 with e2
   injection e2 with e2 e3
   subst e2 e3 e1
   have hgt:decide ((0:Int) < ((j+1:Nat):Int))=true:=decide_eq_true Aaa
   have gG:Hid (gQ (zf lo) iA (ids.take (j+1+1))=(zf lo ids[j+1]&&iA ids[j] ids[j+1])):=by
    have h:=uo (zf lo) iA ids j hlm;rw [ah agJ] at h;exact h
   clear XU
   generalize ids[j]=y at *
   generalize ids[j+1]=x at *
   cases h1:decide (lo<=x/\x<=1000000000)
   case' false=>
    have HV:=Hq (HBM (by rw [ah gG];simp[zf,h1]))
    clear gG HBM
    go_wp2_with fail
    refine wp_region_quiet_lit Aab Aab ?_
    repeat (first|go_big_quiet_step ((first|(go_at_call 63;exact qIn _ _ _ _ h1 _ _)))|quiet_step ((first|(go_at_call 63;exact qIn _ _ _ _ h1 _ _))))
    refine wpQuiet_nil ?_
    intro _ hw'
    obtain⟨nq,hw''⟩:=hw'
    subst hw''
    go_wp2_with fail
    go_ret
    exact⟨aD HV.symm,HL9.trans ⟨rfl,rfl,rfl,Nat.le_refl _,λ_ _=>rfl⟩⟩
   by_cases h2:y < x
   case' neg=>
    have hy:decide (x<=y)=true:=decide_eq_true Aaa
    have HV:=Hq (HBM (by rw [ah gG];simp[iA,h2]))
    clear gG HBM
    go_wp2_with fail
    refine wp_region_quiet_lit Aab Aab ?_
    repeat (first|go_big_quiet_step ((first|(go_at_call 63;exact qIn _ _ _ _ h1 _ _)))|quiet_step ((first|(go_at_call 63;exact qIn _ _ _ _ h1 _ _))))
    refine wpQuiet_nil ?_
    intro _ hw'
    obtain⟨nq,hw''⟩:=hw'
    subst hw''
    go_wp2_with fail
    go_ret
    exact⟨aD HV.symm,HL9.trans ⟨rfl,rfl,rfl,Nat.le_refl _,λ_ _=>rfl⟩⟩
   have hy:decide (x<=y)=false:=decide_eq_false Aaa
   have HV:=Hq (show gQ (zf lo) iA (ids.take (j+1+1))=true by rw [ah gG];simp[zf,h1,iA,h2])
   clear gG HBM
   go_wp2_with fail
   refine wp_region_quiet_lit Aab Aab ?_
   repeat (first|go_big_quiet_step ((first|(go_at_call 63;exact qIn _ _ _ _ h1 _ _)))|quiet_step ((first|(go_at_call 63;exact qIn _ _ _ _ h1 _ _))))
   refine wpQuiet_nil ?_
   intro _ hw'
   obtain⟨nq,hw''⟩:=hw'
   subst hw''
   go_wp2_with fail
   go_roundw
   case rel=>exact⟨j+1+1,Aaa,Aai,HV,kE.trans ⟨rfl,rfl,rfl,Nat.le_refl _,λ_ _=>rfl⟩⟩
   case measure=>simp[intOf];omega):P:=h
theorem anE.Kr144(h:P:=by
 clear hbx d0 d1 d2 d3 c0 c1 c2 c3 c4 c5 c6 c7 c8 k0 k1 k2 k3 k4 k5 k6 k7 k8 m0 m1 m2 m3 HW1 zl tN Bq
 have za:=Hq (show gQ RQ RR (reqs.take (k+1))= !bb by
  rw [ah gG,<-ah eY,ah lS]
  simp only[Bool.not_not])
 cases hbv:bb
 .have HG:Hid (gQ RQ RR (reqs.take (k+1))=true):=by rw [ah za,hbv];exact Hq rfl
  exact asZ
 .exact asR):P:=h
theorem anF.Kr144(h:P:=by
 clear hbx d0 d1 d2 d3 c0 c1 c2 c3 c4 c5 c6 c7 c8 k0 k1 k2 k3 k4 k5 k6 k7 k8 m0 m1 m2 m3 HW1 zl tN Bq
 have za:=Hq (show gQ OT RO (out.take (k+1))= !bb by
  rw [ah gG,<-ah eY,ah lS]
  simp only[Bool.not_not])
 cases hbv:bb
 .have HG:Hid (gQ OT RO (out.take (k+1))=true):=by rw [ah za,hbv];exact Hq rfl
  exact asZ
 .exact asR):P:=h
theorem anG.Kr144(h:P:=by
 have HW2:=Hq (ay HW1 hbx);clear hbx d0 d1 d2 d3 c0 c1 c2 c3 c4 c5 c6 c7 c8 HW1 zl tN eY;obtain⟨d0,d1,d2,d3⟩:=fQ HW2;cases hbv:bb
 .have HG:=Hq (show gQ KB RR (out.take (k+1))=true by rw [ah za,hbv];rfl);subst hbv;clear HBAD za;go_wp2_with fail;go_roundw
  case rel=>exact⟨k+1,si,Aaa,Aai,rfl,BZ.symm,HG,aeW,IG⟩
  case measure=>simp[intOf];omega
 .have HP:=Hq (HBAD (by rw [ah za,hbv];rfl));subst hbv;clear HBAD za;go_wp2_with fail;go_ret;exact⟨aD HP.symm,IG⟩):P:=h
theorem acE(h:P:=by
 obtain⟨mK,mF,mT,mI,mL,mk,mN⟩:=m;obtain⟨R,hR⟩:∃R,bV ⟨5,no,k,n,⟨mK,mF,mT,mI,mL,mk,mN⟩⟩=R:=⟨_,rfl⟩;rw [hR];have HR:=Hq hR;clear hR;have HP:=Hq (show R=(decide (k.toList=[])&&decide (n=0)&&decide (no=0)&&kX ⟨mK,mF,mT,mI,mL,mk,mN⟩) by rw [<-ah HR];simp[bV]);clear HR;exact Kr145):P:=h
theorem anH.Kr145(h:P:=by
 go_enter Tryz.func105,Tryz.ntmps105
 go_upto_region 23 with fail;open aoO in exact Rs):P:=h
theorem anI.Kr145(h:P:=by
 go_enter Tryz.func36,Tryz.ntmps36
 go_wp2_with fail
 all_goals
  go_ret
  refine⟨aD ?_,aj w _⟩
  rw [ah HP]
  simp[kX, *]):P:=h
theorem acF(h:P:=by
 refine dw Aab ?_;show gX _ _ _ _ 23 (Array.replicate 23 false) _ _
 refine tk [0,1,2,3,4,5,6,7,8,9,10,11,12,13,14,15,16,17,18,19,20,21,22] ?_;iterate 23 (refine tY (λK hK=>?_);go_simp;refine hK _ ?_;clear hK K)
 refine iN ?_;refine eX Aab (λz hz=>?_);exact Kr146):P:=h
theorem anJ.Kr146(h:P:=by
 have HZ:=Hq (HW1.step hz);clear hz y1;go_simp;go_wp2_with fail;go_ret;exact⟨rfl,A,G,c,HZ⟩):P:=h
theorem anK.Kr146(h:P:=by
 have HZ:=Hq ((aj w (.cells (bJ mK mF mT mI mL mk mN) 32)).trans (hz.mono Aac));clear hz y4 z3 z5 z6 x1 hlen;go_simp;go_wp2_with fail;go_ret;exact⟨rfl,HZ⟩):P:=h
theorem Rn(h:P:=by
 have Pk:=Hq (λp:Regrown=>hH.below (below_regrown w p.d p.os));have H:=Hq h;obtain⟨c0,c1,f0,f1⟩:=h.two;clear h hs hH hE f0 f1;exact Kr147):P:=h
theorem anL.Kr147(h:P:=by
 generalize iO s i=E at *;generalize jc s i=R at *;go_enter Tryz.func221,Tryz.ntmps221
 exact asw):P:=h
theorem anM.Kr147(h:P:=by
 generalize iO s i=E at *;generalize jc s i=R at *;go_enter Tryz.func221,Tryz.ntmps221
 exact asx):P:=h
theorem anN.Kr147(h:P:=by
 generalize jK s i=E at *;generalize sH s i=R at *;go_enter Tryz.func220,Tryz.ntmps220
 exact asw):P:=h
theorem anO.Kr147(h:P:=by
 generalize jK s i=E at *;generalize sH s i=R at *;go_enter Tryz.func220,Tryz.ntmps220
 exact asx):P:=h
theorem acG(h:P:=by
 clear hge c0 c1 c2 c3 c4 c5 c6 c7 c8 p0 p1 p2 p3 p4 p5 p6 p7 p8 p9 mP hnl hol zq aas K8 afa pE HA4;obtain⟨c0,c1,c2,c3,c4,c5,c6,c7,c8⟩:=nine Bp;obtain⟨q0,q1,q2,q3⟩:=fQ SL;have hnl:=aA Bp;have Mi:=aA SL;exact Kr148):P:=h
theorem anP.Kr148(h:P:=by
 have HIQ:=Hq (show rV n.reqs ⟨no,k,nn,1⟩=n.reqs.take (dP n.reqs no)++⟨no,k,nn,1⟩::n.reqs.drop (dP n.reqs no) from rfl);generalize dP n.reqs no=pos at *;obtain⟨IQ,PZ⟩:∃IQ,rV n.reqs ⟨no,k,nn,1⟩=IQ:=⟨_,rfl⟩;rw [PZ] at HIQ;have VO:=Hq PZ;clear PZ;go_upto_region 16 with fail;go_cut [10] from 11 (λi wx=>i= .int .i64 pos/\∃va vc,(∃g,va=some ⟨g,0,none⟩)/\n.reqs.length+1<=vc/\wx.heap[w.heap.size]?=some (.cells (fK n.id n.par a_k n.kids.length aJ n.next (some ⟨gp,0,none⟩) n.pu.length bq dR n.out.length aO dY n.seen.length aK n.old va (n.reqs.length+1) vc) 30 (0,0))/\wx.heap[w.heap.size+2]?=some (.cells gu 30 (0,0))/\wx.heap[W1.heap.size]?=some (.cells (dX no k nn 1) 97 (0,0))/\LO 97 aM 4 (w.heap.size+3) wx va vc IQ/\aX w wx)
 case first=>
  open aif in exact arw
 case rest=>
  clear c0 c1 c2 c3 c4 c5 c6 c7 c8 q0 q1 q2 q3 hnl Mi Bp xE SL jW HA5;obtain⟨rfl,va,vc,⟨gv,rfl⟩,hvc,hN6,X9,hQ6,hL6,hB6⟩:=hcut;open aqR in exact adF):P:=h
theorem anQ.Kr148(h:P:=by
 have HIQ:=Hq (show rV n.reqs ⟨no,k,nn,0⟩=n.reqs.take (dP n.reqs no)++⟨no,k,nn,0⟩::n.reqs.drop (dP n.reqs no) from rfl);generalize dP n.reqs no=pos at *;obtain⟨IQ,PZ⟩:∃IQ,rV n.reqs ⟨no,k,nn,0⟩=IQ:=⟨_,rfl⟩;rw [PZ] at HIQ;have VO:=Hq PZ;clear PZ;go_upto_region 16 with fail;go_cut [10] from 11 (λi wx=>i= .int .i64 pos/\∃va vc,(∃g,va=some ⟨g,0,none⟩)/\n.reqs.length+1<=vc/\wx.heap[w.heap.size]?=some (.cells (fK n.id n.par a_k n.kids.length aJ n.next av RL.length cv dR n.out.length aO dY n.seen.length aK n.old va (n.reqs.length+1) vc) 30 (0,0))/\wx.heap[w.heap.size+2]?=some (.cells gu 30 (0,0))/\wx.heap[W1.heap.size]?=some (.cells (dX no k nn 0) 97 (0,0))/\LO 97 aM 4 (w.heap.size+3) wx va vc IQ/\LO 143 fE 4 (w.heap.size+3) wx av cv RL/\aX w wx)
 case first=>
  open aie in exact arw
 case rest=>
  clear c0 c1 c2 c3 c4 c5 c6 c7 c8 q0 q1 q2 q3 hnl Mi Bp xE SL jW HA5 Kv;obtain⟨rfl,va,vc,⟨gv,rfl⟩,hvc,hN6,X9,hQ6,hL6,hP6,hB6⟩:=hcut;open aqQ in exact adF):P:=h
theorem acH(h:P:=by
 go_wp2_with fail;refine bodyPost_at (λW' hW'=>?_);obtain⟨⟨r0,r1,r2,r3,r4,r5,r6⟩,_⟩:=dG (show W'.heap[w.heap.size]?=some (.cells (bJ (s[0].toNat:Int) N1 N2 N3 N4 TX N5) 32 (0,0)) by rw [hW'];exact mJ Vq);have hbb:aX w W':=Adi
 exact Kr149):P:=h
theorem anR.Kr149(h:P:=by
 exact bodyPost_ret (v:= .tuple #[.agg (bJ (s[0].toNat:Int) N1 N2 N3 N4 TX N5),.bool true]) Adg rfl ⟨Aav,hbb⟩):P:=h
theorem anS.Kr149(h:P:=by
 exact bodyPost_ret (v:= .tuple #[.agg (bJ (s[0].toNat:Int) N1 N2 N3 N4 TX N5),.bool true]) Adf rfl ⟨Aav,hbb⟩):P:=h
theorem Ro(h:P:=by
 have hb0:s[0].toNat < 256:=s[0].toNat_lt;have hw64:wrap64 (s[0].toNat:Int)=(s[0].toNat:Int):=IntWalk.wrap64_in _ ⟨Aaa,Aaa⟩;exact Kr150):P:=h
theorem anT.Kr150(h:P:=by
 clear h;go_enter Tryz.func219,Tryz.ntmps219
 go_upto_region 1 with fail;go_quiet (fail);go_upto_region 4 with fail;refine wp_at (λV hV=>?_);have HRV:Hid (jm V g s 1):=by rw [hV];exact(show jm (w.drewN _) g s 0 from H).set 1
 have HKV:Hid (dJ g w V):=by rw [hV];exact(dJ.of_below (iY w _)).trans (dJ.set _)
 clear hV c0 c1 f0 f1;obtain⟨c0,c1,f0,f1⟩:=HRV.two;go_quiet (fail);go_wp2_with fail;go_ret;exact⟨rfl,aI HRV (iY V _),HKV.trans (dJ.of_below (iY V _))⟩):P:=h
theorem anU.Kr150(h:P:=by
 go_upto_region 8 with fail;go_region
 go_upto_region 9 with fail;refine wp_at (λV hV=>?_);have hM:V.heap[w5.heap.size+1]?=some (.cells (bY (s[0].toNat:Int) N1 TX N2 mK mF mT mI mL mk mN) 34 (0,0)):=by rw [hV];exact(iw w5 (.cells (bJ mK mF mT mI mL mk mN) 32) _).2.1
 have hlt:=cu Vq
 have hB:aX w V:=by
  rw [hV];have h1:=(jW.alloc jW.size (.cells (bJ mK mF mT mI mL mk mN) 32)).alloc (by have:=jW.size;simp;omega) (.cells (bY (s[0].toNat:Int) N1 TX N2 mK mF mT mI mL mk mN) 34);exact⟨h1.os,h1.tape,h1.output,h1.size,h1.block⟩
 have hR:V.heap[w.heap.size]?=some (.cells (bY 0 0 ⟨#[]⟩ 0 0 0 0 0 0 ⟨#[]⟩ 0) 34 (0,0)):=by
  rw [hV];have h1:=Below.heap_alloc (w5.alloc (.cells (bJ mK mF mT mI mL mk mN) 32)) (.cells (bY (s[0].toNat:Int) N1 TX N2 mK mF mT mI mL mk mN) 34) w.heap.size Aag;have h2:=Below.heap_alloc w5 (.cells (bJ mK mF mT mI mL mk mN) 32) w.heap.size hlt;exact h1.trans (h2.trans Vq)
 clear hV Vq jW hw64 hb0 hlt;have hzM:=cu hM;have hzR:=cu hR;by_cases hE:0<=E
 case' neg=>
  have hO:OK=false:=by rw [ah HO,decide_eq_false hE,Bool.false_and,Bool.false_and]
  have rR:=Hq (HZ hO)
  have hE2:E < 0:=Aaa
  obtain⟨⟨d0,d1,d2,d3,d4,d5,d6,d7,d8,d9,d10⟩,f0,f1,f2,f3,f4,f5,f6,f7,f8,f9,f10⟩:=aU hR
  have HR:=Hq hR
  have HB:=Hq hB
  clear hO HO HZ HM HP hM hR hB hE
  go_wp2_with fail
  refine iJ (λW' hW'=>?_)
  obtain⟨⟨r0,r1,r2,r3,r4,r5,r6,r7,r8,r9,Zm⟩,_⟩:=aU (show W'.heap[w.heap.size]?=some (.cells (bY 0 0 ⟨#[]⟩ 0 0 0 0 0 0 ⟨#[]⟩ 0) 34 (0,0)) by rw [hW'];exact lZ HR)
  have hbb:aX w W':=by rw [hW'];exact iV HB (Nat.le_refl _)
  exact bodyPost_ret (v:= .tuple #[.agg (bY 0 0 ⟨#[]⟩ 0 0 0 0 0 0 ⟨#[]⟩ 0),.bool false]) Acr rfl ⟨Aav,hbb⟩
 have hE2:¬(E < 0):=Aaa
 cases hbd:(decide (B.size=0)||mo)
 case' false=>
  have hO:OK=false:=by rw [ah HO,hbd,Bool.and_false,Bool.false_and]
  have rR:=Hq (HZ hO)
  simp only[Bool.or_eq_false_iff,decide_eq_false_iff_not] at hbd
  obtain⟨hb1,rfl⟩:=hbd
  have hbe:=jS B Aaa
  obtain⟨⟨d0,d1,d2,d3,d4,d5,d6,d7,d8,d9,d10⟩,f0,f1,f2,f3,f4,f5,f6,f7,f8,f9,f10⟩:=aU hR
  have HR:=Hq hR
  have HB:=Hq hB
  clear hO HO HZ HM HP hM hR hB hE hb1
  go_wp2_with fail
  refine iJ (λW' hW'=>?_)
  obtain⟨⟨r0,r1,r2,r3,r4,r5,r6,r7,r8,r9,Zm⟩,_⟩:=aU (show W'.heap[w.heap.size]?=some (.cells (bY 0 0 ⟨#[]⟩ 0 0 0 0 0 0 ⟨#[]⟩ 0) 34 (0,0)) by rw [hW'];exact lZ HR)
  have hbb:aX w W':=by rw [hW'];exact iV HB (Nat.le_refl _)
  exact bodyPost_ret (v:= .tuple #[.agg (bY 0 0 ⟨#[]⟩ 0 0 0 0 0 0 ⟨#[]⟩ 0),.bool false]) Acr rfl ⟨Aav,hbb⟩
 have HBD:=Hq hbd;obtain⟨q0,q1,q2,q3,q4,q5,q6,q7,q8,q9,q10⟩:=(aU hM).1;have HR:=Hq hR;have HB:=Hq hB;have HMB:=Hq hM;clear hR hB hM
 have hcond:((!B.toList.isEmpty)&& !mo)=false:=by
  rcases Bool.or_eq_true_iff.1 hbd with h|h
  .have h1:=eq_empty B (of_decide_eq_true h);subst h1;rw [ByteArray.toList_eq];rfl
  .rw [h];simp
 clear hbd
 have HQ:Hid ((B.toList.isEmpty=true)\/(B.toList.isEmpty=false/\mo=true)):=by
  cases h1:B.toList.isEmpty
  .rw [h1] at hcond;exact .inr ⟨rfl,by simpa using hcond⟩
  .exact .inl rfl
 clear hcond;have HPP:Hid (∀Q:Prop,(B.toList.isEmpty=true->Q)->(B.toList.isEmpty=false->mo=true->Q)->Q):=λQ h1 h2=>HQ.elim h1 (λh=>h2 h.1 h.2)
 clear HQ;refine HPP _ (λhbe=>?_) (λhbe hmo=>?_)
 all_goals
  clear HPP
  go_wp2_with fail
  refine(HP _).mono ?_
  rintro e w7 ⟨rfl,uf⟩
  have HR7:=Hq (aI HR uf)
  have HM7:=Hq (aI HMB uf)
  have BU:=Hq (HB.trans (uf.mono HB.size))
  have axW:=cu HM7
  have axY:=cu HR7
  clear uf HR HMB HB q0 q1 q2 q3 q4 q5 q6 q7 q8 q9 q10 HP hzM hzR
  obtain⟨⟨d0,d1,d2,d3,d4,d5,d6,d7,d8,d9,d10⟩,f0,f1,f2,f3,f4,f5,f6,f7,f8,f9,f10⟩:=aU HR7
  by_cases hp:uI ⟨s[0].toNat,N1,TX,N2,⟨mK,mF,mT,mI,mL,mk,mN⟩⟩=s
  case' neg=>
   have hO:OK=false:=by rw [ah HO,decide_eq_false hp,Bool.and_false]
   have rR:=Hq (HZ hO)
   have hq:((uI ⟨s[0].toNat,N1,TX,N2,⟨mK,mF,mT,mI,mL,mk,mN⟩⟩).toList == s.toList)=false:=by
    exact adZ
   clear hO HO HZ HM HBD hp
   generalize uI ⟨s[0].toNat,N1,TX,N2,⟨mK,mF,mT,mI,mL,mk,mN⟩⟩=pm at *
   go_wp2_with fail
   refine iJ (λW' hW'=>?_)
   obtain⟨⟨r0,r1,r2,r3,r4,r5,r6,r7,r8,r9,Zm⟩,_⟩:=aU (show W'.heap[w.heap.size]?=some (.cells (bY 0 0 ⟨#[]⟩ 0 0 0 0 0 0 ⟨#[]⟩ 0) 34 (0,0)) by rw [hW'];exact lZ HR7)
   have hbb:aX w W':=by rw [hW'];exact iV BU (Nat.le_refl _)
   exact bodyPost_ret (v:= .tuple #[.agg (bY 0 0 ⟨#[]⟩ 0 0 0 0 0 0 ⟨#[]⟩ 0),.bool false]) Acr rfl ⟨Aav,hbb⟩
  have hO:OK=true:=by rw [ah HO,decide_eq_true hE,ah HBD,decide_eq_true hp];rfl
  have rR:=Hq (HM hO)
  have hq:((uI ⟨s[0].toNat,N1,TX,N2,⟨mK,mF,mT,mI,mL,mk,mN⟩⟩).toList == s.toList)=true:=by rw [hp];simp
  obtain⟨⟨q0,q1,q2,q3,q4,q5,q6,q7,q8,q9,q10⟩,_⟩:=aU HM7
  clear hO HO HZ HM HBD
  have HPX:=Hq hp
  clear hp
  generalize uI ⟨s[0].toNat,N1,TX,N2,⟨mK,mF,mT,mI,mL,mk,mN⟩⟩=pm at *
  go_wp2_with fail
  refine iJ (λW' hW'=>?_)
  obtain⟨⟨r0,r1,r2,r3,r4,r5,r6,r7,r8,r9,Zm⟩,_⟩:=aU (show W'.heap[w.heap.size]?=some (.cells (bY (s[0].toNat:Int) N1 TX N2 mK mF mT mI mL mk mN) 34 (0,0)) by rw [hW'];exact lZ HR7)
  have hbb:aX w W':=by rw [hW'];exact iV BU (Nat.le_refl _)
  exact bodyPost_ret (v:= .tuple #[.agg (bY (s[0].toNat:Int) N1 TX N2 mK mF mT mI mL mk mN),.bool true]) Acr rfl ⟨Aav,hbb⟩):P:=h
theorem anV.Kr150(h:P:=by
 go_upto_region 6 with fail;go_region
 go_upto_region 7 with fail;refine wp_at (λV hV=>?_);have hM:V.heap[w3.heap.size]?=some (.cells (bJ (s[0].toNat:Int) N1 N2 N3 N4 TX N5) 32 (0,0)):=by rw [hV];exact heap_alloc_new w3 _
 have hlt:=cu HR3
 have hR:V.heap[w.heap.size]?=some (.cells (bJ 0 0 0 0 0 ⟨#[]⟩ 0) 32 (0,0)):=by
  rw [hV];show(w3.alloc _).heap[w.heap.size]?=_
  rw [Below.heap_alloc _ _ _ hlt];exact HR3
 have hB:aX w V:=by
  rw [hV];have h1:=HB3.alloc HB3.size (.cells (bJ (s[0].toNat:Int) N1 N2 N3 N4 TX N5) 32);exact⟨h1.os,h1.tape,h1.output,h1.size,h1.block⟩
 clear hV HR3 HB3 c0 c1 c2 c3 hg3 HN HT HG hw64 hb0;have hzM:=cu hM;have hzR:=cu hR;by_cases hE:0<=E6
 case' neg=>
  have hO:OK=false:=by rw [ah HO,decide_eq_false hE];rfl
  have rR:=Hq (HZ hO)
  have hE2:E6 < 0:=Aaa
  obtain⟨⟨d0,d1,d2,d3,d4,d5,d6⟩,f0,f1,f2,f3,f4,f5,f6⟩:=dG hR
  have HR:=Hq hR
  have HB:=Hq hB
  clear hO HO HZ HM HP hM hR hB hE
  go_wp2_with fail
  refine bodyPost_at (λW' hW'=>?_)
  obtain⟨⟨r0,r1,r2,r3,r4,r5,r6⟩,_⟩:=dG (show W'.heap[w.heap.size]?=some (.cells (bJ 0 0 0 0 0 ⟨#[]⟩ 0) 32 (0,0)) by rw [hW'];exact mJ HR)
  have hbb:aX w W':=by rw [hW'];exact kQ HB (Nat.le_refl _)
  exact bodyPost_ret (v:= .tuple #[.agg (bJ 0 0 0 0 0 ⟨#[]⟩ 0),.bool false]) Adg rfl ⟨Aav,hbb⟩
 have hE2:¬(E6 < 0):=Aaa
 obtain⟨q0,q1,q2,q3,q4,q5,q6⟩:=rH hM;have HR:=Hq hR;have HB:=Hq hB;have HMB:=Hq hM;clear hR hB hM;open amR in exact aci):P:=h
theorem anW.Kr150(h:P:=by
 open amx in exact ab9):P:=h
theorem acI(h:P:=by
 rw [TU] at Jl EY;refine Lib.wp_append_run x5 (.tmp 101) (.tmp 105) 28 28 rfl _ _ Aak Aak v5 y5 Jl ?_;refine⟨(Below.refl _ _).grown BA Ml (λb hb=>(Lh.lt b hb).1),?_⟩;go_simp;have Sz:=Hq (KI.grown BA Ml (λb hb=>(Lh.lt b hb).1));exact Kr151):P:=h
theorem anX.Kr151(h:P:=by
 have Te:Hid (y5.ownsRow wc.heap.size 97 4 v5 (pos+1+(n.reqs.length - pos)) (GR.flat aM (n.reqs.take pos++[(⟨no,k,nn,0⟩:Rq)]++n.reqs.drop pos))):=Hq Adh;have aha:=Hq (show y5.heap[rb]?=some (.cells (dX no k nn 0) 97 (0,0)) from by rw [BA.block _ (aA (ah KY)) (λhm=>ah aag _ hm.symm rfl)];exact KY);open ap3 in exact Xb):P:=h
theorem anY.Kr151(h:P:=by
 have Te:Hid (y5.ownsRow wc.heap.size 97 4 v5 (pos+1+(n.reqs.length - pos)) (GR.flat aM (n.reqs.take pos++[(⟨no,k,nn,1⟩:Rq)]++n.reqs.drop pos))):=Hq Adh;have aha:=Hq (show y5.heap[rb]?=some (.cells (dX no k nn 1) 97 (0,0)) from by rw [BA.block _ (aA (ah KY)) (λhm=>ah aag _ hm.symm rfl)];exact KY);open ap2 in exact Xb):P:=h
theorem acJ(h:P:=by
 have hn:=Ki (BP (tl s a));have HS:=Hq (λw1=>sumBytes (BP (tl s a)) (Nat.le_trans (DY _ _) Aah) w1);have HCV:=Hq (λw1 g=>GJ w1 g (jA (BP (tl s a))) 4 hn);have HCC:=Hq (λw1 (hb:aX w w1)=>rM (hc.below hg hb) a 4 4 Aaa);exact Kr152):P:=h
theorem anZ.Kr152(h:P:=by
 have hqq:((kR (jA (BP (tl s a)))).toList == (s.extract a (a+4)).toList)=false:=by
  rw [beq_eq_false_iff_ne];intro h;rw [ByteArray.toList_eq,ByteArray.toList_eq] at h;exact hq (ByteArray.ext (Array.ext' h))
 open avG in exact arj):P:=h
theorem an0.Kr152(h:P:=by
 have hqq:((kR (jA (BP (tl s a)))).toList == (s.extract a (a+4)).toList)=true:=by
  rw [hq];simp
 open avF in exact arj):P:=h
theorem acK(h:P:=by
 have HS:Hid ((s.data.toList.take (k+1)).all Mth.keyByte=((s.data.toList.take k).all Mth.keyByte&&Mth.keyByte s[k])):=by rw [Mth.take_snoc s k hlt];exact Mth.all_snoc _ _
 have hc:s[k].toNat < 256:=s[k].toNat_lt;exact Kr153):P:=h
theorem an1.Kr153(h:P:=by
 rcases Mth.byte_cases s[k] with h|h
 .have HK:=Hq (Mth.keyByte_yes _ h);rcases h with⟨h1,h2⟩|⟨h1,h2⟩
  all_goals
   go_wp2_with (go_at_call 63;first|(refine(oh _ _ _ _ ?_ ?_).mono ?_;omega;omega;rintro e w' ⟨rfl,rfl⟩)|(refine(qM _ _ _ _ ?_).mono ?_;omega;rintro e w' ⟨rfl,rfl⟩))
   go_round
   case rel=>exact⟨k+1,Aaa,Aai,Acs⟩
   case measure=>simp[intOf];omega
 .have HK:=Hq (Mth.keyByte_no _ h);have HF:Hid (Mth.keyOk s.data.toList=false):=Mth.keyOk_bad _ (k+1) Acs;rcases h with h1|⟨h1,h2⟩|h1
  all_goals
   go_wp2_with (go_at_call 63;first|(refine(oh _ _ _ _ ?_ ?_).mono ?_;omega;omega;rintro e w' ⟨rfl,rfl⟩)|(refine(qM _ _ _ _ ?_).mono ?_;omega;rintro e w' ⟨rfl,rfl⟩))
   go_ret
   exact⟨aD HF.symm,rfl⟩):P:=h
theorem an2.Kr153(h:P:=by
 rcases Mth.byte_cases s[k] with h|h
 .have HK:=Hq (Mth.keyByte_yes _ h);rcases h with⟨h1,h2⟩|⟨h1,h2⟩
  all_goals
   go_wp2_with (first|(go_at_call 176;first|(refine(Ip _ _ ?_ ?_).mono ?_;omega;omega;rintro e w' ⟨rfl,rfl⟩)|(refine(NY _ _ ?_).mono ?_;omega;rintro e w' ⟨rfl,rfl⟩))|(go_at_call 177;first|(refine(GK _ _ ?_ ?_).mono ?_;omega;omega;rintro e w' ⟨rfl,rfl⟩)|(refine(LV _ _ ?_).mono ?_;omega;rintro e w' ⟨rfl,rfl⟩)))
   go_round
   case rel=>exact⟨k+1,Aaa,Aai,Acs⟩
   case measure=>simp[intOf];omega
 .have HK:=Hq (Mth.keyByte_no _ h);have HF:Hid (Mth.keyOk s.data.toList=false):=Mth.keyOk_bad _ (k+1) Acs;rcases h with h1|⟨h1,h2⟩|h1
  all_goals
   go_wp2_with (first|(go_at_call 176;first|(refine(Ip _ _ ?_ ?_).mono ?_;omega;omega;rintro e w' ⟨rfl,rfl⟩)|(refine(NY _ _ ?_).mono ?_;omega;rintro e w' ⟨rfl,rfl⟩))|(go_at_call 177;first|(refine(GK _ _ ?_ ?_).mono ?_;omega;omega;rintro e w' ⟨rfl,rfl⟩)|(refine(LV _ _ ?_).mono ?_;omega;rintro e w' ⟨rfl,rfl⟩)))
   go_ret
   exact⟨aD HF.symm,rfl⟩):P:=h
theorem acL(h:P:=by
 have Wi:=Hq (ay afb EU);have aw9:=aA afb;have IJ:=Hq (show∀b,(Value.slice (some ⟨x2.heap.size,0,none⟩) 0 0).ownBlock=some b->b≠x1.heap.size from λb hb=>by simp[Value.ownBlock] at hb;omega);have IK:=Hq (uj.trans (EU.mono uj.size));clear EU;exact Kr154):P:=h
theorem an3.Kr154(h:P:=by
 generalize Uc:x2.alloc (.cells #[] 3)=y2 at *;open aoe in exact acP):P:=h
theorem an4.Kr154(h:P:=by
 generalize Uc:x2.alloc (.cells #[] 97)=y2 at *;open aoi in exact acR):P:=h
theorem acM(h:P:=by
 have ED:Hid (NQ W6 B (dB n (n.seen.set i ⟨mF,eH s0 mL,aY s0 mL⟩)) (⟨a_k,(some ⟨gp,0,none⟩),dR,(some ⟨G.s,0,none⟩),fU,aJ,bq,aO,aK,aP⟩:bH) ⟨G.k,G.p,G.o,G.s,G.r,qZ G.i i gi⟩ (tQ gi (aY s0 mL) (newC w.heap.size 9 c))):=by rw [Vx];exact Pd
 exact Kr155):P:=h
theorem an5.Kr155(h:P:=by
 open auq in exact Yr2):P:=h
theorem an6.Kr155(h:P:=by
 open aup in exact Yr2):P:=h
theorem WG(h:P:=by
 go_simp;have zn:=Hq (HG0.trans (hx1.mono HG0.size));have Yp:wc.heap.size<=x1.heap.size:=zn.size;clear hx1;refine⟨(aj x1 _).mono Yp,?_⟩;exact Kr156):P:=h
theorem an7.Kr156(h:P:=by
 have xV:=aj x1 (.cells #[] 97);have aaE:=Hq (show(x1.alloc (.cells #[] 97)).ownsRow wc.heap.size 97 4 (.slice (some ⟨x1.heap.size,0,none⟩) 0 0) 0 (GR.flat aM []) from World.ownsRow_lit (base:=wc.heap.size) (e:=97) (size:=4) x1 #[] 0 Yp Aah Aac);have xw:=Hq (zn.trans (xV.mono zn.size));clear xV;generalize Mr:x1.alloc (.cells #[] 97)=y1 at *;clear Mr;exact Kr74):P:=h
theorem an8.Kr156(h:P:=by
 have xV:=aj x1 (.cells (dX no k nn 1) 97);have aav:=Hq (heap_alloc_new x1 (.cells (dX no k nn 1) 97));have xw:=Hq (zn.trans (xV.mono zn.size));clear xV;generalize Mr:x1.alloc (.cells (dX no k nn 1) 97)=y1 at *;open ahF in exact arl):P:=h
theorem an9.Kr156(h:P:=by
 have xV:=aj x1 (.cells (dX no k nn 0) 97);have aav:=Hq (heap_alloc_new x1 (.cells (dX no k nn 0) 97));have xw:=Hq (zn.trans (xV.mono zn.size));clear xV;generalize Mr:x1.alloc (.cells (dX no k nn 0) 97)=y1 at *;open ahE in exact arl):P:=h
theorem acN(h:P:=by
 obtain⟨d0,d1,d2,d3,d4,d5,d6,d7,d8⟩:=nine lY;have f0:=au lY 0;have f1:=au lY 1;have f2:=au lY 2;have f3:=au lY 3;have f4:=au lY 4;have f5:=au lY 5;have f6:=au lY 6;have f7:=au lY 7;have f8:=au lY 8;exact Kr157):P:=h
theorem aoa.Kr157(h:P:=by
 have hrl:=aA lY;go_wp2_with fail;refine aN (λW' hW'=>?_)
 have e4:W'.heap[w.heap.size+2]?=some (.cells (fK n.id n.par A1.k n.kids.length A1.ck n.next pa RL.length pc A1.o n.out.length A1.co A1.s n.seen.length A1.cs n.old A1.r n.reqs.length A1.cr) 30 (0,0)):=by
  rw [hW'];exact GR.setW_blk (fK n.id n.par A1.k n.kids.length A1.ck n.next pa RL.length pc A1.o n.out.length A1.co A1.s n.seen.length A1.cs n.old A1.r n.reqs.length A1.cr).toList (o:=0) (xs:=gu.toList) lY
 have fH:aC [w.heap.size+2] Y W':=by
  rw [hW'];exact aL (fK n.id n.par A1.k n.kids.length A1.ck n.next pa RL.length pc A1.o n.out.length A1.co A1.s n.seen.length A1.cs n.old A1.r n.reqs.length A1.cr).toList Y 0
 have HAT:=Hq (λW'' (ho:Co w W' W'')=>(show RM W'' ⟨A1.k,pa,A1.o,A1.s,A1.r,A1.ck,pc,A1.co,A1.cs,A1.cr⟩ (setPu n RL) from(by
  have h:=((auc.kc (k:=9) (KC.keeps fH (λx hx=>by have:x=w.heap.size+2:=Aaf;rw [this];exact wY)) Aaa).kc (k:=9) (ho.kc (λx hx=>VG x Aaa)) Aaa)
  obtain⟨F,hk2,hF⟩:=ho
  have hpo:=(dA (dA aug fH (λx hx=>by have:x=w.heap.size+2:=Aaf;omega)) hk2 (λx hx=>by have:=hF x hx;omega))
  have hp9:∀g',pa.map (λy=>y.block)=some g'->6 < newC X.heap.size 9 c g':=λg' hg'=>by
   have h1:=sG hpo (nu hpo hg')
   rw [aS Aaa]
   omega
  exact NQ.put h HCQ (setPu n RL) ⟨A1.k,pa,A1.o,A1.s,A1.r,A1.ck,pc,A1.co,A1.cs,A1.cr⟩ rfl rfl rfl rfl (GR.own_ati aZ hpo) (λg' hg' _=> .inr (hp9 g' hg')) h.o (λy hy=> .inl (HCQ.co y hy)) h.r (λy hy=> .inl (HCQ.cr y hy))
   (λg' hg' _ h6=>⟨λe=>by have:=HCQ.co g' e;omega,λe=>by have:=HCQ.cr g' e;omega⟩) (λy hy h6 e=>by have:=HCQ.co y hy;omega))))
 have lQ:Hid (aX w W'):=BU.trans (fH.below (λx hx=>by have:x=w.heap.size+2:=Aaf;omega) BU.size);obtain⟨x0,x1,x2,x3,x4,x5,x6,x7,x8⟩:=nine e4;clear hW' e4 fH;exact bodyPost_ret (v:= .tuple #[.agg (fK n.id n.par A1.k n.kids.length A1.ck n.next pa RL.length pc A1.o n.out.length A1.co A1.s n.seen.length A1.cs n.old A1.r n.reqs.length A1.cr),.slice (some ⟨W0.heap.size,0,none⟩) 0 0,.int .i64 0]) Aaz rfl ⟨⟨A1.k,pa,A1.o,A1.s,A1.r,A1.ck,pc,A1.co,A1.cs,A1.cr⟩,some ⟨W0.heap.size,0,none⟩,0,rfl,HAT,λW'' _ i hi=>Aas,lQ⟩):P:=h
theorem aob.Kr157(h:P:=by
 have hnl:=aA ou;have hrl:=aA lY;by_cases hm:mI < eH s0 mL
 .have hd:decide (mI < eH s0 mL)=true:=decide_eq_true hm;go_wp2_with fail;exact asb
 .have hd:decide (mI < eH s0 mL)=false:=decide_eq_false hm;have hb:hasB (aY s0 mL) mI=true:=Adn
  rw [hb] at VN;go_wp2_with (go_at_call 124;refine(VN _ aah.at).mono ?_;rintro e wh ⟨rfl,rfl⟩)
  exact asb):P:=h
theorem acO(h:P:=by
 generalize zh s=B at *;generalize JD s=E at *;generalize Hy s=X at *;generalize sH s (iO s (jK s 1))=N2 at *;generalize iO s (jK s 1)=E2 at *;generalize jc s (jK s 1)=TX at *;generalize sH s 1=N1 at *;generalize jK s 1=E1 at *;obtain⟨mK,mF,mT,mI,mL,mk,mN⟩:=m;exact Kr158):P:=h
theorem aoc.Kr158(h:P:=by
 have HH0:=Hq (λW (k:dJ g w W)=>HH.keep1 k hg hge);go_enter Tryz.func185,Tryz.ntmps185
 go_wp2_with fail;refine(HK _ H).mono ?_;rintro e w1 ⟨rfl,hr1,hk1⟩;have HR1:=Hq (hk1.obj (heap_alloc_new w _) (show w.heap.size≠g by omega));have HK1:=Hq ((dJ.of_below (aj w _)).trans hk1);have HA1:=Hq hr1;have hz1:w.heap.size < w1.heap.size:=cu HR1;clear hr1 hk1 HK H;go_upto_region 2 with fail;refine wp_at (λV2 hV=>?_)
 have HS:Hid (OS w V2 g w1.heap.size s 1 (bY (s[0].toNat:Int) 0 ⟨#[]⟩ 0 0 0 0 0 0 ⟨#[]⟩ 0)):=by
  rw [hV];exact⟨aI HA1 (aj w1 _),aI HR1 (aj w1 _),heap_alloc_new w1 _,HK1.trans (dJ.of_below (aj w1 _)),hz1⟩
 clear hV HR1 HK1 HA1;generalize w1.heap.size=o at *;clear w1;by_cases hE0:0<=E1
 case' neg=>
  have hno:OK=false:=ah jP (λhx=>hE0 (by have:=ah HX hx.1;omega))
  have VW:=Hq (atZ V2 HS.rd (HH0 _ HS.keep) Aaa)
  clear hE0
  go_wp2_with fail
  refine VW.mono ?_
  rintro e w9 ⟨rfl,P6⟩
  have HKK:=Hq (HS.keep.trans (dJ.of_below P6))
  clear P6
  go_wp2_with fail
  exact⟨rfl,.inr ⟨hno,_,rfl⟩,HKK⟩
 have HNY:=Hq (at6 V2 HS.rd (HH0 _ HS.keep) hE0);go_wp2_with fail;refine HNY.mono ?_;rintro e u0 ⟨rfl,hr,hk⟩;have HT:=Hq (HS.step hr hk hg);clear hr hk HNY HS;have hz0:=cu HT.op;obtain⟨⟨c0,c1,c2,c3,c4,c5,c6,c7,c8,c9,c10⟩,f0,f1,f2,f3,f4,f5,f6,f7,f8,f9,f10⟩:=aU HT.op;go_upto_region 3 with fail;refine wp_at (λV3 hV=>?_);have HS:Hid (OS w V3 g o s E1 (bY (s[0].toNat:Int) N1 ⟨#[]⟩ 0 0 0 0 0 0 ⟨#[]⟩ 0)):=by rw [hV];exact HT.set hg 1 (.int .i64 N1)
 clear hV HT hz0 c0 c1 c2 c3 c4 c5 c6 c7 c8 c9 c10 f0 f1 f2 f3 f4 f5 f6 f7 f8 f9 f10 u0 V2;by_cases hE1:0<=E2
 case' neg=>
  have hno:OK=false:=ah jP (λhx=>hE1 (by have:=ah HX hx.1;omega))
  have VW:=Hq (aui V3 HS.rd (HH0 _ HS.keep) Aaa)
  clear hE1
  go_wp2_with fail
  refine VW.mono ?_
  rintro e w9 ⟨rfl,P6⟩
  have HKK:=Hq (HS.keep.trans (dJ.of_below P6))
  clear P6
  go_wp2_with fail
  exact⟨rfl,.inr ⟨hno,_,rfl⟩,HKK⟩
 have HNY:=Hq (auj V3 HS.rd (HH0 _ HS.keep) hE1);go_wp2_with fail;refine HNY.mono ?_;rintro e u1 ⟨rfl,hr,hk⟩;have HT:=Hq (HS.step hr hk hg);clear hr hk HNY HS;have hz1:=cu HT.op;obtain⟨⟨c0,c1,c2,c3,c4,c5,c6,c7,c8,c9,c10⟩,f0,f1,f2,f3,f4,f5,f6,f7,f8,f9,f10⟩:=aU HT.op;go_upto_region 4 with fail;refine wp_at (λV4 hV=>?_);have HS:Hid (OS w V4 g o s E2 (bY (s[0].toNat:Int) N1 TX 0 0 0 0 0 0 ⟨#[]⟩ 0)):=by rw [hV];exact HT.set hg 2 (.string TX)
 clear hV HT hz1 c0 c1 c2 c3 c4 c5 c6 c7 c8 c9 c10 f0 f1 f2 f3 f4 f5 f6 f7 f8 f9 f10 u1 V3;by_cases hE2:0<=X
 case' neg=>
  have hno:OK=false:=ah jP (λhx=>hE2 (by have:=ah HX hx.1;omega))
  have VW:=Hq (at7 V4 HS.rd (HH0 _ HS.keep) Aaa)
  clear hE2
  go_wp2_with fail
  refine VW.mono ?_
  rintro e w9 ⟨rfl,P6⟩
  have HKK:=Hq (HS.keep.trans (dJ.of_below P6))
  clear P6
  go_wp2_with fail
  exact⟨rfl,.inr ⟨hno,_,rfl⟩,HKK⟩
 have HNY:=Hq (aua V4 HS.rd (HH0 _ HS.keep) hE2);go_wp2_with fail;refine HNY.mono ?_;rintro e u2 ⟨rfl,hr,hk⟩;have HT:=Hq (HS.step hr hk hg);clear hr hk HNY HS;have hz2:=cu HT.op;obtain⟨⟨c0,c1,c2,c3,c4,c5,c6,c7,c8,c9,c10⟩,f0,f1,f2,f3,f4,f5,f6,f7,f8,f9,f10⟩:=aU HT.op;go_upto_region 5 with fail;refine wp_at (λV5 hV=>?_);have HS:Hid (OS w V5 g o s X (bY (s[0].toNat:Int) N1 TX N2 0 0 0 0 0 ⟨#[]⟩ 0)):=by rw [hV];exact HT.set hg 3 (.int .i64 N2)
 clear hV HT hz2 c0 c1 c2 c3 c4 c5 c6 c7 c8 c9 c10 f0 f1 f2 f3 f4 f5 f6 f7 f8 f9 f10 u2 V4;have hgl:g < V5.heap.size:=Nat.lt_of_lt_of_le hg HS.keep.size;have HMM:=Hq (HM V5 hgl HS.rd (HH0 _ HS.keep));go_wp2_with fail;refine HMM.mono ?_;rintro e w6 ⟨hcase,hk⟩;have HK6:=Hq hk;clear hk HMM;rcases hcase with⟨hyes,rfl,hr⟩|⟨hnot,p,rfl⟩
 case' inr=>
  have hno:=ah jP hnot
  have HKK:=Hq (HS.keep.trans HK6)
  clear hnot
  go_wp2_with fail
  exact⟨rfl,.inr ⟨hno,_,rfl⟩,HKK⟩
 have HT:=Hq (HS.step hr HK6 hg);have HYE:=Hq hyes;clear hr HK6 HS hyes hgl;have hz6:=cu HT.op;obtain⟨⟨c0,c1,c2,c3,c4,c5,c6,c7,c8,c9,c10⟩,f0,f1,f2,f3,f4,f5,f6,f7,f8,f9,f10⟩:=aU HT.op;go_upto_region 6 with fail;refine wp_at (λV6 hV=>?_);have HS:Hid (OS w V6 g o s E (bY (s[0].toNat:Int) N1 TX N2 mK mF mT mI mL mk mN)):=by rw [hV];exact HT.tail hg
 clear hV HT hz6 c0 c1 c2 c3 c4 c5 c6 c7 c8 c9 c10 f0 f1 f2 f3 f4 f5 f6 f7 f8 f9 f10 w6 V5;obtain⟨e0,e1,_,_⟩:=HS.rd.two;obtain⟨⟨c0,c1,c2,c3,c4,c5,c6,c7,c8,c9,c10⟩,f0,f1,f2,f3,f4,f5,f6,f7,f8,f9,f10⟩:=aU HS.op;have hoV:=cu HS.op;have hgV:=cu HS.rd;clear f0 f1 f2 f3 f4 f5 f6 f7 f8 f9 f10;by_cases hEs:E=s.size
 case' neg=>
  have hno:OK=false:=by rw [Bool.eq_false_iff];intro hy;exact hEs (HG.1 hy).1
  have hq:(E == (s.size:Int))=false:=by simpa using hEs
  have hq2:(E != (s.size:Int))=true:=by simpa using hEs
  clear c0 c1 c2 c3 c4 c5 c6 c7 c8 c9 c10
  refine wp_region_quiet_lit Aab Aab ?_
  repeat (any_goals (first|go_big_quiet_step (fail)|quiet_step (fail)))
  refine wpQuiet_nil ?_
  intro _ hw'
  obtain⟨nq,hw''⟩:=hw'
  subst hw''
  go_wp2_with fail
  refine(HF _ (aI HS.rd (iY V6 _))).mono ?_
  rintro e w9 ⟨rfl,rfl⟩
  go_wp2_with fail
  exact⟨rfl,.inr ⟨hno,_,rfl⟩,HS.keep.trans (dJ.of_below (iY V6 _))⟩
 have hq:(E == (s.size:Int))=true:=by simpa using hEs
 have hq2:(E != (s.size:Int))=false:=by simpa using hEs
 have HES:=Hq hEs;clear hEs;have x0:=cell_regrown e0;have x1:=cell_regrown e1;open ahq in exact EK):P:=h
theorem aod.Kr158(h:P:=by
 go_enter Tryz.func140,Tryz.ntmps140
 go_wp2_with fail;refine(xq _).mono ?_;rintro e w1 ⟨rfl,hb1⟩;have XZ:=aI (heap_alloc_new w _) hb1;have hB1:=(aj w _).trans (hb1.mono Aac);clear hb1 xq;go_wp2_with fail;refine(HT1 _).mono ?_;rintro e w2 ⟨rfl,hb2⟩;have hR2:=aI XZ hb2;have hB2:=hB1.trans (hb2.mono hB1.size);clear hb2 XZ hB1 HT1;go_wp2_with fail;refine(KP _).mono ?_;rintro e w3 ⟨rfl,hb3⟩;have hR3:=aI hR2 hb3;have hB3:=hB2.trans (hb3.mono hB2.size);clear hb3 hR2 hB2 KP;go_wp2_with fail;refine(HT2 _).mono ?_;rintro e w4 ⟨rfl,hb4⟩;have hR4:=aI hR3 hb4;have hB4:=hB3.trans (hb4.mono hB3.size);clear hb4 hR3 hB3 HT2;go_wp2_with fail;refine(HG _).mono ?_;rintro e w5 ⟨rfl,hb5⟩;have Vq:=Hq (aI hR4 hb5);have jW:=Hq (hB4.trans (hb5.mono hB4.size));clear hb5 hR4 hB4 HG;open anU in exact Ro):P:=h
theorem acP(h:P:=by
 clear Uc;refine gF 4 rfl Aab Aad Aae (λx3 hx3=>?_);have xu:=Hq (IK.trans (hx3.mono IK.size));have zP:tq.heap.size<=x3.heap.size:=xu.size;have zw:=Hq (GR.own_below EJ hx3);have wm:=Hq (ay Wi hx3);clear hx3;exact Kr159):P:=h
theorem aoe.Kr159(h:P:=by
 obtain⟨v3,y3,Jk,Jj,wF,Qb⟩:=eT aQ Aaa x3 tq.heap.size 24 24 3 i0 (.int .i64 0) 8 Tryz.underlying24 hi0 hz0 hz1' hz2 rfl (.slice (some ⟨x2.heap.size,0,none⟩) 0 0) 0 (GR.flat aW ([])) zw (some ⟨gi,0,none⟩) ((aY s0 mL).take pos) LJ (GR.At.below EH xu) (pY _) Aah Aaa zP;open aly in exact ar2):P:=h
theorem aof.Kr159(h:P:=by
 obtain⟨v3,y3,Jk,Jj,wF,Qb⟩:=eT aQ Aaa x3 tq.heap.size 24 24 3 i0 (.int .i64 0) 8 Tryz.underlying24 hi0 hz0 hz1' hz2 rfl (.slice (some ⟨x1.heap.size,0,none⟩) 0 0) 0 (GR.flat aW ([])) zw (some ⟨gi,0,none⟩) ((aY s0 mL).take pos) LJ (GR.At.below EH xu) (pY _) Aah Aaa zP;open alx in exact ar2):P:=h
theorem acQ(h:P:=by
 have h2I:¬(40:Int)<=(n.out.length:Int):=Aaa
 have q2:decide ((40:Int)<=(n.out.length:Int))=false:=by simpa using h2I
 have q3:decide ((1000000000:Int)<=n.next)=false:=by simpa using h3
 obtain⟨gp,Yf⟩:=hP;subst Yf;obtain⟨i0,hi,hz0,hz1,hz2⟩:=info_parts Jw;exact Kr160):P:=h
theorem aog.Kr160(h:P:=by
 have HPT:=Hq (λW (ha:aH W (some ⟨gp,0,none⟩) n.pu)=>Ou gp 0 bq n.pu key pf W (Nat.le_trans hz.p Aaa) tu hz.pk hkey ha);unfold iH at HPT;rw [hu] at HPT;obtain⟨PM,zO⟩:∃PM,nI ⟨n.id,n.par,n.kids,n.next+1,RL,n.out++[⟨n.next,dst,key,pf⟩],n.seen,n.old,n.reqs⟩ ⟨n.next,dst,key,pf⟩=PM:=⟨_,rfl⟩;have Vo:=Hq zO;rw [zO];clear hz tu hu zO;unfold fq;have H9:=Hq h9;clear h9;open auW in exact Yr9):P:=h
theorem aoh.Kr160(h:P:=by
 have HPT:=Hq (λW (ha:aH W (some ⟨gp,0,none⟩) n.pu)=>Ou gp 0 bq n.pu key most W (Nat.le_trans hz.p Aaa) tu hz.pk hkey ha);unfold iH at HPT;rw [hu] at HPT;obtain⟨PM,zO⟩:∃PM,nI ⟨n.id,n.par,n.kids,n.next+1,RL,n.out++[⟨n.next,dst,key,most⟩],n.seen,n.old,n.reqs⟩ ⟨n.next,dst,key,most⟩=PM:=⟨_,rfl⟩;have Vo:=Hq zO;rw [zO];clear hz tu hu zO;unfold fq;have H9:=Hq h9;clear h9;open auX in exact Yr9):P:=h
theorem acR(h:P:=by
 clear Uc;refine gF 5 rfl Aab Aad Aae (λx3 hx3=>?_);have xu:=Hq (IK.trans (hx3.mono IK.size));have zP:wc.heap.size<=x3.heap.size:=xu.size;have zw:=Hq (GR.own_below EJ hx3);have wm:=Hq (ay Wi hx3);clear hx3;exact Kr161):P:=h
theorem aoi.Kr161(h:P:=by
 obtain⟨v3,y3,Jk,Jj,wF,Qb⟩:=eT bg Aaa x3 wc.heap.size 28 28 97 i0 (.agg (dX 0 ByteArray.empty 0 0)) 40 Tryz.underlying28 hi hz0 hz1 hz2 rfl (.slice (some ⟨x2.heap.size,0,none⟩) 0 0) 0 (GR.flat aM ([])) zw (some ⟨gr,0,none⟩) (n.reqs.take pos) aP (GR.At.below EH xu) (iy _) Aah Aaa zP;open alX in exact abY):P:=h
theorem aoj.Kr161(h:P:=by
 obtain⟨v3,y3,Jk,Jj,wF,Qb⟩:=eT bg Aaa x3 wc.heap.size 28 28 97 i0 (.agg (dX 0 ByteArray.empty 0 0)) 40 Tryz.underlying28 hi hz0 hz1 hz2 rfl (.slice (some ⟨x1.heap.size,0,none⟩) 0 0) 0 (GR.flat aM ([])) zw (some ⟨gr,0,none⟩) (n.reqs.take pos) aP (GR.At.below EH xu) (iy _) Aah Aaa zP;open alW in exact abY):P:=h
theorem acS(h:P:=by
 have jl:=Hq ((hap _ (aA oZ) (by rw [ah wY];omega)).trans oZ);have Vz:=Hq hat;have vI:=Hq (LD kE hb5 hap VG);have hrx:=aA oZ;clear hat hb5 hap c0 c1 c2 c3 c4 c5 c6 c7 c8 p0 p1 p2 p3 p4 p5 p6 p7 p8 p9 mP hnl hol jO gG HOX oZ zo HPR;exact Kr162):P:=h
theorem aok.Kr162(h:P:=by
 open am3 in exact acp):P:=h
theorem aol.Kr162(h:P:=by
 have Vl:=Hq (heap_alloc_new W5 (.cells (dH N1 A2) 30));have tO:=Hq (ay jl (aj W5 (.cells (dH N1 A2) 30)));have tZ:=Hq (vI.trans ((aj W5 (.cells (dH N1 A2) 30)).mono vI.size));obtain⟨c0,c1,c2,c3,c4,c5,c6,c7,c8⟩:=nine Vl;have hnl:=aA Vl;open aik in exact Tg):P:=h
theorem acT(h:P:=by
 refine Lib.wp_append_run x4 (.tmp 98) (.tmp 100) 28 28 rfl _ _ Aak Aak v4 y4 TY ?_;refine⟨(Below.refl _ _).grown Di Mk (λb hb=>(Lg.lt b hb).1),?_⟩;go_simp;have VL:=Hq (VK.grown Di Mk (λb hb=>(Lg.lt b hb).1));exact Kr163):P:=h
end Go.Proofs.YtacgbldlonoaaaaGreatDoor
