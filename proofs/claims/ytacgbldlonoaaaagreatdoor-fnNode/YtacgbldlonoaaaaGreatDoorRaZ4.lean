/-
  Parts of proofs that stand more than once, each said once.
-/
import Derived.Test.YtacgbldlonoaaaaGreatDoorRaZ3
namespace Go.Proofs.YtacgbldlonoaaaaGreatDoor
set_option maxRecDepth 100000
variable{P:Prop}
theorem ag2.Ka94(h:P:=by
 obtain⟨w2,hrun,hI2,hK2⟩:=ah HST _ 0 hI1;have HI2:=hide (hI2.mono (Nat.le_succ n));have MK:=hide ((Keeps.of_below (g:=mb) hbel).trans (Keeps.trans (b:=w1.drew) (Keeps.of_below (Below.refl _ _).drew) hK2));clear hb1 hA hbel hm1 hI1 hI2 hK2 HST HN;go_wp2_with fail;go_region
 all_goals
  go_wp2_with fail
  exact bodyPost_ret (v:= .tuple #[]) (by simp[results,Tryz.results259,go_sem]) rfl ⟨rfl,HI2,MK⟩):P:=h
theorem ag3.Ka94(h:P:=by
 obtain⟨w2,hrun,hI2,hK2⟩:=ah HST _ hI1;have HI2:=hide hI2;have MK:=hide ((Keeps.of_below (g:=mb) hbel).trans (Keeps.trans (b:=w1.drew) (Keeps.of_below (Below.refl _ _).drew) hK2));clear hb1 hA hbel hm1 hI1 hI2 hK2 HST HN;go_wp2_with fail;go_region
 all_goals
  go_wp2_with fail
  exact bodyPost_end (v:= .tuple #[]) (by simp[results,Tryz.results259,go_sem]) rfl ⟨rfl,HI2,MK⟩):P:=h
theorem Bb(h:P:=by
 clear hr;go_enter Tryz.func65,Tryz.ntmps65
 go_upto_region 11 with fail;refine wp_at (fun V hV=>?_);exact Ka95):P:=h
theorem ag4.Ka95(h:P:=by
 have hblk:V.heap[w.heap.size]?=some (.cells #[.int .i64 2,.int .i64 F,.int .i64 T,.int .i64 I,.int .i64 0,.string ByteArray.empty,.int .i64 0] 32 (0,0)):=by rw [hV,Below.heap_alloc _ _ _ (by simp)];exact heap_alloc_new w _
 open aoR in exact Ya6):P:=h
theorem ag5.Ka95(h:P:=by
 have hblk:V.heap[w.heap.size]?=some (.cells #[.int .i64 2,.int .i64 F,.int .i64 T,.int .i64 I,.int .i64 0,.string ByteArray.empty,.int .i64 N] 32 (0,0)):=by rw [hV,Below.heap_alloc _ _ _ (by simp)];exact heap_alloc_new w _
 open aoS in exact Ya6):P:=h
theorem ag6.Ka95(h:P:=by
 open ak3 in exact YC):P:=h
theorem ag7.Ka95(h:P:=by
 open ak2 in exact YC):P:=h
theorem ag8.Ka95(h:P:=by
 open ak5 in exact YD):P:=h
theorem ag9.Ka95(h:P:=by
 open ak4 in exact YD):P:=h
theorem aha.Ka95(h:P:=by
 have hblk:V.heap[w.heap.size]?=some (.cells #[.int .i64 0,.int .i64 F,.int .i64 T,.int .i64 0,.int .i64 0,.string k,.int .i64 N] 32 (0,0)):=by rw [hV,Below.heap_alloc _ _ _ (by simp)];exact heap_alloc_new w _
 open apz in exact aaF):P:=h
theorem ahb.Ka95(h:P:=by
 have hblk:V.heap[w.heap.size]?=some (.cells #[.int .i64 0,.int .i64 F,.int .i64 T,.int .i64 0,.int .i64 L,.string k,.int .i64 N] 32 (0,0)):=by rw [hV,Below.heap_alloc _ _ _ (by simp)];exact heap_alloc_new w _
 open apA in exact aaF):P:=h
theorem ahc.Ka95(h:P:=by
 open ak7 in exact YE):P:=h
theorem ahd.Ka95(h:P:=by
 open ak6 in exact YE):P:=h
theorem Vi(h:P:=by
 refine aG 3 rfl (by kernel_rfl) (by rfl) ?_;go_simp;refine aG 4 rfl (by kernel_rfl) (by rfl) ?_;go_simp;refine wpAny_done (by kernel_rfl) ?_;go_simp;go_wp2_with fail;exact Ka96):P:=h
theorem ahe.Ka96(h:P:=by
 go_meet
 case rel=>exact⟨rfl,GR.setW_blk [.int .i64 n.id,.int .i64 n.par,.slice a_k n.kids.length aI,.int .i64 n.next,.slice av RL.length cv,.slice dA n.out.length aM,.slice dJ n.seen.length aJ,.int .i64 IH.no,.slice (some ⟨g8,0,none⟩) n.reqs.length zn] (o:=0) (xs:=[.int .i64 0,.int .i64 0,.slice none 0 0,.int .i64 0,.slice none 0 0,.slice none 0 0,.slice none 0 0,.int .i64 0,.slice none 0 0]) rC,(aC.of_below hg3).trans (aL [.int .i64 n.id,.int .i64 n.par,.slice a_k n.kids.length aI,.int .i64 n.next,.slice av RL.length cv,.slice dA n.out.length aM,.slice dJ n.seen.length aJ,.int .i64 IH.no,.slice (some ⟨g8,0,none⟩) n.reqs.length zn] x3 0)⟩):P:=h
theorem ahf.Ka96(h:P:=by
 go_meet
 case rel=>exact⟨rfl,GR.setW_blk [.int .i64 n.id,.int .i64 n.par,.slice a_k n.kids.length aI,.int .i64 n.next,.slice av RL.length cv,.slice dA n.out.length aM,.slice dJ n.seen.length aJ,.int .i64 n.old,.slice (some ⟨gv,0,none⟩) (n.reqs.length+1) vc] (o:=0) (xs:=[.int .i64 0,.int .i64 0,.slice none 0 0,.int .i64 0,.slice none 0 0,.slice none 0 0,.slice none 0 0,.int .i64 0,.slice none 0 0]) rC,(aC.of_below hg3).trans (aL [.int .i64 n.id,.int .i64 n.par,.slice a_k n.kids.length aI,.int .i64 n.next,.slice av RL.length cv,.slice dA n.out.length aM,.slice dJ n.seen.length aJ,.int .i64 n.old,.slice (some ⟨gv,0,none⟩) (n.reqs.length+1) vc] x3 0)⟩):P:=h
theorem ahg.Ka96(h:P:=by
 go_meet
 case rel=>exact⟨rfl,GR.setW_blk [.int .i64 n.id,.int .i64 n.par,.slice a_k n.kids.length aI,.int .i64 n.next,.slice (some ⟨gp,0,none⟩) n.pu.length bf,.slice dA n.out.length aM,.slice dJ n.seen.length aJ,.int .i64 IH.no,.slice (some ⟨g8,0,none⟩) n.reqs.length zn] (o:=0) (xs:=[.int .i64 0,.int .i64 0,.slice none 0 0,.int .i64 0,.slice none 0 0,.slice none 0 0,.slice none 0 0,.int .i64 0,.slice none 0 0]) rC,(aC.of_below hg3).trans (aL [.int .i64 n.id,.int .i64 n.par,.slice a_k n.kids.length aI,.int .i64 n.next,.slice (some ⟨gp,0,none⟩) n.pu.length bf,.slice dA n.out.length aM,.slice dJ n.seen.length aJ,.int .i64 IH.no,.slice (some ⟨g8,0,none⟩) n.reqs.length zn] x3 0)⟩):P:=h
theorem ahh.Ka96(h:P:=by
 go_meet
 case rel=>exact⟨rfl,GR.setW_blk [.int .i64 n.id,.int .i64 n.par,.slice a_k n.kids.length aI,.int .i64 n.next,.slice (some ⟨gp,0,none⟩) n.pu.length bf,.slice dA n.out.length aM,.slice dJ n.seen.length aJ,.int .i64 n.old,.slice (some ⟨gv,0,none⟩) (n.reqs.length+1) vc] (o:=0) (xs:=[.int .i64 0,.int .i64 0,.slice none 0 0,.int .i64 0,.slice none 0 0,.slice none 0 0,.slice none 0 0,.int .i64 0,.slice none 0 0]) rC,(aC.of_below hg3).trans (aL [.int .i64 n.id,.int .i64 n.par,.slice a_k n.kids.length aI,.int .i64 n.next,.slice (some ⟨gp,0,none⟩) n.pu.length bf,.slice dA n.out.length aM,.slice dJ n.seen.length aJ,.int .i64 n.old,.slice (some ⟨gv,0,none⟩) (n.reqs.length+1) vc] x3 0)⟩):P:=h
theorem aaS(h:P:=by
 have Nf:=hide (GR.own_below wP Rp);have MH:=hide (show∀b,((.slice avR (pos) cvR:Value)).ownBlock=some b→b≠x3.heap.size from fun b hb=>by have:=(wP.lt b hb).2;omega);have MI:=hide (uH.trans (Rp.mono uH.size));clear Rp;exact Ka97):P:=h
theorem ahi.Ka97(h:P:=by
 generalize RZ:x3.alloc (.cells #[.int .i64 mI] 3)=y3 at *;clear RZ;generalize x3.heap.size=rb at *;exact Za3):P:=h
theorem ahj.Ka97(h:P:=by
 generalize RZ:x3.alloc (.cells #[.int .i64 no,.string k,.int .i64 nn,.int .i64 1] 97)=y3 at *;clear RZ;generalize x3.heap.size=rb at *;exact Za2):P:=h
theorem ahk.Ka97(h:P:=by
 generalize RZ:x3.alloc (.cells #[.int .i64 no,.string k,.int .i64 nn,.int .i64 0] 97)=y3 at *;clear RZ;generalize x3.heap.size=rb at *;exact Za1):P:=h
theorem amC(h:P:=by
 rw [hlt1] at Ej Ei;refine Lib.wp_append_run x3 (.tmp 127) (.tmp 130) 24 24 rfl _ _ (by simp[Act.eval]) (by simp[Act.eval]) v3 y3 Ej ?_;refine⟨(Below.refl _ _).grown tK wY (fun b hb=>(wP.lt b hb).1),?_⟩;go_simp;have MI:=hide (uH.grown tK wY (fun b hb=>(wP.lt b hb).1));have Nf:Hid (y3.ownsRow qc.heap.size 3 1 v3 (pos) (GR.flat aR ((aW s0 mL).take pos))):=hide (by simpa [GR.flat_nil] using Ei);exact Ka98):P:=h
theorem ahl.Ka98(h:P:=by
 have AX:=hide (show y3.heap[x2.heap.size]?=some (.cells #[.int .i64 mI] 3 (0,0)) from by rw [tK.block _ (aA (ah tq)) (fun hm=>ah DK _ hm.symm rfl)];exact tq);open ajU in exact Qx):P:=h
theorem ahm.Ka98(h:P:=by
 have AX:=hide (show y3.heap[x1.heap.size]?=some (.cells #[.int .i64 mI] 3 (0,0)) from by rw [tK.block _ (aA (ah tq)) (fun hm=>ah DK _ hm.symm rfl)];exact tq);open ajR in exact Qw):P:=h
theorem amD(h:P:=by
 obtain⟨c0,c1,c2,c3,c4,c5,c6,c7,c8⟩:=nine jK;have hnl:=aA jK;have aqm:decide ((30:Int) < ((n.reqs.length+1:Nat):Int))=false:=decide_eq_false (by omega);have hIT:IQ.length=n.reqs.length+1:=ah WI;clear WI;have Nu:=hide hIT;clear hIT;go_upto_region 20 with fail;clear c0 c1 c2 c3 c4 c5 c6 c7 c8 hnl;obtain⟨c0,c1,c2,c3,c4,c5,c6,c7,c8⟩:=nine jK;exact Ka99):P:=h
theorem ahn.Ka99(h:P:=by
 open ac9 in exact DY):P:=h
theorem aho.Ka99(h:P:=by
 open adb in exact DY):P:=h
theorem Xg(h:P:=by
 rw [hlt1] at Ej Ei;refine Lib.wp_append_run x3 (.tmp 93) (.tmp 97) 28 28 rfl _ _ (by simp[Act.eval]) (by simp[Act.eval]) v3 y3 Ej ?_;refine⟨(Below.refl _ _).grown tK wY (fun b hb=>(wP.lt b hb).1),?_⟩;go_simp;have MI:=hide (uH.grown tK wY (fun b hb=>(wP.lt b hb).1));have Nf:Hid (y3.ownsRow wc.heap.size 97 4 v3 (pos) (GR.flat aK (n.reqs.take pos))):=hide (by simpa [GR.flat_nil] using Ei);exact Ka100):P:=h
theorem ahp.Ka100(h:P:=by
 exact Ka32):P:=h
theorem ahq.Ka100(h:P:=by
 exact Ka25):P:=h
theorem LC(h:P:=by
 obtain⟨avR,cvR,GU,_⟩:=GR.own_at (enc:=aK) (sz:=4) (l:=n.reqs.take pos) aY (by rw [hlt1];exact Nf);rw [hlt1] at GU;subst GU;clear Ej Ei tK J9;exact Ka101):P:=h
theorem ahr.Ka101(h:P:=by
 generalize x2.heap.size=rb at *;exact Za2):P:=h
theorem ahs.Ka101(h:P:=by
 generalize x2.heap.size=rb at *;exact Za1):P:=h
theorem aht.Ka101(h:P:=by
 generalize x1.heap.size=rb at *;exact Za2):P:=h
theorem ahu.Ka101(h:P:=by
 generalize x1.heap.size=rb at *;exact Za1):P:=h
theorem LD(h:P:=by
 have hke:k=out.length:=by omega
 subst hke;have hnlt:decide ((out.length:Int) < (out.length:Int))=false:=by simp
 exact Ka102):P:=h
theorem ahv.Ka102(h:P:=by
 have TV:Hid (TT=fT RQ RR reqs):=by
  have h:=ah kV;rw [List.take_length] at h;rw [ah HTT,h];rfl
 clear yg yK rX HOT;go_wp2_with fail;go_loopw [5] (fun i wr=>∃k:Nat,k≤reqs.length∧i= .int .i64 k∧fT RQ RR (reqs.take k)=true∧wr.heap[w.heap.size]?=some (.cells (fZ ⟨id,par,kids,next,pu,out,seen,old,reqs⟩ ⟨ak,ap,ao,as',ar,ck,cp,co,cs,cr⟩) 30 (0,0))∧Below w.heap.size w wr) (fun i _=>reqs.length - (intOf i).toNat)
 case atStart=>exact⟨0,Nat.zero_le _,rfl,rfl,DC,fD⟩
 case round=>
  open ahK in exact LH):P:=h
theorem ahw.Ka102(h:P:=by
 have HRS:Hid (L=(out.take out.length).map PM):=by
  rw [ah FX,List.take_length];cases Ue:OK
  ·rcases Nat.eq_zero_or_pos out.length with h|h
   ·rw [List.eq_nil_of_length_eq_zero h];rfl
   ·exact absurd (hpos h) (by rw [Ue];simp)
  ·rfl
 clear hpos;go_wp2_with fail;go_ret;rw [ah HRS];exact wJ.of_own (by simp) HO (by omega) HW):P:=h
theorem ahx.Ka102(h:P:=by
 have HF:=hide (yL HN);go_wp2_with fail;go_ret;exact⟨Mv HF.symm,au w _⟩):P:=h
theorem ahy.Ka102(h:P:=by
 have hyy:=ah yL HN;clear TR uG yL;subst hyy;go_upto_region 8 with fail;refine wp_at (fun W3 hW3=>?_);have hbw:Below wr.heap.size wr W3:=by rw [hW3];exact Below.refl _ _
 open afB in exact ami):P:=h
theorem Xh(h:P:=by
 rintro e W3 ⟨A1,ma,mc,rfl,hat,hmt,hb3,hap⟩;have jD:=hide ((hap _ (aA iI) (by rw [aT (by omega)];omega)).trans iI);have Pw:=hide hat;have Ut:=hide hmt;have HB3:=hide ((HB2.mono hB).trans hb3);have HK3:Hid (Apart c w W3):=fun x hx hc=>(hap x (Nat.lt_of_lt_of_le hx HB2.size) (by rw [dH hx];exact hc)).trans (HB2.block x hx)
 have h23:=hb3.size;have h02:=HB2.size;have h2r:=aA iI;exact Ka103):P:=h
theorem ahz.Ka103(h:P:=by
 clear hat hmt hb3 hap c0 c1 c2 c3 c4 c5 c6 c7 c8 m0 m1 m2 m3 m4 m5 m6 hml hnl Ls iQ uJ iI MQ;open aic in exact Xu):P:=h
theorem ahA.Ka103(h:P:=by
 clear hat hmt hb3 hap c0 c1 c2 c3 c4 c5 c6 c7 c8 m0 m1 m2 m3 m4 m5 m6 hml hnl HGV iQ uJ iI MQ;obtain⟨A1,hA1⟩:∃A2,A2=A1:=⟨_,rfl⟩;subst hA1;have O7:=hide (heap_alloc_new W3 (.cells #[.int .i64 N1.id,.int .i64 N1.par,.slice A1.k N1.kids.length A1.ck,.int .i64 N1.next,.slice A1.p N1.pu.length A1.cp,.slice A1.o N1.out.length A1.co,.slice A1.s N1.seen.length A1.cs,.int .i64 N1.old,.slice A1.r N1.reqs.length A1.cr] 30));have qB:=hide (aj jD (au W3 (.cells #[.int .i64 N1.id,.int .i64 N1.par,.slice A1.k N1.kids.length A1.ck,.int .i64 N1.next,.slice A1.p N1.pu.length A1.cp,.slice A1.o N1.out.length A1.co,.slice A1.s N1.seen.length A1.cs,.int .i64 N1.old,.slice A1.r N1.reqs.length A1.cr] 30)));have qA:=hide (HB3.trans ((au W3 (.cells #[.int .i64 N1.id,.int .i64 N1.par,.slice A1.k N1.kids.length A1.ck,.int .i64 N1.next,.slice A1.p N1.pu.length A1.cp,.slice A1.o N1.out.length A1.co,.slice A1.s N1.seen.length A1.cs,.int .i64 N1.old,.slice A1.r N1.reqs.length A1.cr] 30)).mono (Nat.le_trans hB HB3.size)));have HKA:=hide (HK3.step HB3.size (au W3 (.cells #[.int .i64 N1.id,.int .i64 N1.par,.slice A1.k N1.kids.length A1.ck,.int .i64 N1.next,.slice A1.p N1.pu.length A1.cp,.slice A1.o N1.out.length A1.co,.slice A1.s N1.seen.length A1.cs,.int .i64 N1.old,.slice A1.r N1.reqs.length A1.cr] 30)));obtain⟨c0,c1,c2,c3,c4,c5,c6,c7,c8⟩:=nine O7;open adL in exact Ni):P:=h
theorem Xi(h:P:=by
 have q3s:=Rf (g:=w.heap.size+2) (i:=3) (b0:= .int .i64 n.id) (b1:= .int .i64 n.par) (b2:= .slice a_k n.kids.length aI) (b3:= .int .i64 n.next) (b4:= .slice (some ⟨gp,0,none⟩) n.pu.length bf) (b5:= .slice dA n.out.length aM) (b6:= .slice dJ n.seen.length aJ) (b7:= .int .i64 n.old) (b8:= .slice (some ⟨gv,0,none⟩) (n.reqs.length+1) vc) (show w.heap.size+2≠W1.heap.size by omega) Jy;exact Ka104):P:=h
theorem ahB.Ka104(h:P:=by
 open aep in exact Gi):P:=h
theorem ahC.Ka104(h:P:=by
 go_simp;refine aG 1 rfl (by kernel_rfl) (by rfl) ?_;open aer in exact Gi):P:=h
theorem Xj(h:P:=by
 have q3s:=Rf (g:=w.heap.size+2) (i:=3) (b0:= .int .i64 n.id) (b1:= .int .i64 n.par) (b2:= .slice a_k n.kids.length aI) (b3:= .int .i64 n.next) (b4:= .slice (some ⟨gp,0,none⟩) n.pu.length bf) (b5:= .slice dA n.out.length aM) (b6:= .slice dJ n.seen.length aJ) (b7:= .int .i64 IH.no) (b8:= .slice (some ⟨g8,0,none⟩) n.reqs.length zn) (show w.heap.size+2≠W1.heap.size by omega) Jy;exact Ka105):P:=h
theorem ahD.Ka105(h:P:=by
 open aen in exact Gi):P:=h
theorem ahE.Ka105(h:P:=by
 go_simp;refine aG 1 rfl (by kernel_rfl) (by rfl) ?_;open aeo in exact Gi):P:=h
theorem Xk(h:P:=by
 open alG in exact YV):P:=h
theorem ahF.Ka106(h:P:=by
 exact amT):P:=h
theorem ahG.Ka106(h:P:=by
 open aj6 in exact Gg):P:=h
theorem Qq(h:P:=by
 have hwl:=aA h.blk;obtain⟨K,no,k,nn,⟨mK,mF,mT,mI,mL,mk,mN⟩⟩:=o;dsimp only at *;subst hK;have HW0:=hide h;clear h;go_enter Tryz.func112,Tryz.ntmps112
 go_upto_region 2 with fail;refine wp_at (fun W hW=>?_);exact Ka107):P:=h
theorem ahH.Ka107(h:P:=by
 obtain⟨_,e2,e3⟩:=jo w (.cells #[.int .i64 K,.int .i64 no,.string k,.int .i64 nn,.int .i64 2,.int .i64 mF,.int .i64 mT,.int .i64 mI,.int .i64 mL,.string mk,.int .i64 mN] 34) (.cells #[.int .i64 2,.int .i64 mF,.int .i64 mT,.int .i64 mI,.int .i64 mL,.string mk,.int .i64 mN] 32);open agK in exact aaR):P:=h
theorem ahI.Ka107(h:P:=by
 obtain⟨_,e2,e3⟩:=jo w (.cells #[.int .i64 K,.int .i64 no,.string k,.int .i64 nn,.int .i64 1,.int .i64 mF,.int .i64 mT,.int .i64 mI,.int .i64 mL,.string mk,.int .i64 mN] 34) (.cells #[.int .i64 1,.int .i64 mF,.int .i64 mT,.int .i64 mI,.int .i64 mL,.string mk,.int .i64 mN] 32);open agL in exact aaR):P:=h
theorem ahJ.Ka107(h:P:=by
 obtain⟨_,e2,e3⟩:=jo w (.cells #[.int .i64 K,.int .i64 no,.string k,.int .i64 nn,.int .i64 0,.int .i64 mF,.int .i64 mT,.int .i64 mI,.int .i64 mL,.string mk,.int .i64 mN] 34) (.cells #[.int .i64 0,.int .i64 mF,.int .i64 mT,.int .i64 mI,.int .i64 mL,.string mk,.int .i64 mN] 32);open agM in exact aaR):P:=h
theorem LH(h:P:=by
 obtain⟨k,hk,rfl,hall,hblk,hbel⟩:=hrel;have kV:=hide hall;have fD:=hide hbel;have DC:=hide hblk;exact Ka108):P:=h
theorem ahK.Ka108(h:P:=by
 clear c0 c1 c2 c3 c4 c5 c6 c7 c8;obtain⟨c0,c1,c2,c3,c4,c5,c6,c7,c8⟩:=nine hblk;clear hall hbel hblk;by_cases hlt:k < reqs.length
 case' neg=>
  have hke:k=reqs.length:=by omega
  subst hke
  have arq:decide ((reqs.length:Int) < (reqs.length:Int))=false:=by simp
  have HF:Hid (TT=true):=by
   have h:=ah kV;rw [List.take_length] at h;exact TV.trans h
  go_wp2_with fail
  go_ret
  exact⟨aD HF.symm,fD⟩
 have HBAD:Hid (fT RQ RR (reqs.take (k+1))=false→TT=false):=fun h=>TV.trans (HDB _ h)
 obtain⟨g,off,e0,hgw,q0,q1,q2,q3⟩:=iA.four (HA.below fD).r k hlt;(try dsimp only at e0 q0 q1 q2 q3)
 have hks:=HZ.rk _ (List.getElem_mem hlt);(try dsimp only at hks)
 have M0:Hid (∃pv:Bool,fT RQ RR (reqs.take (k+1))=(RQ reqs[k]&&pv)∧((k=0∧pv=true)∨∃(j:Nat) (y:Int),k=j+1∧pv=decide (y < (reqs[k]).no)∧wr.cell? ⟨g,off+j*4,none⟩=some (.int .i64 y))):=by
  cases k with
  |zero=>
   refine⟨true,?_,.inl ⟨rfl,rfl⟩⟩
   rw [Bool.and_true]
   exact HDF hlt
  |succ j=>
   obtain⟨g',off',e2,_,p0,_⟩:=iA.four (HA.below fD).r j (show j < reqs.length by omega)
   (try dsimp only at e2 p0)
   rw [e0] at e2
   injection e2 with e2
   injection e2 with e2 e3
   subst e2 e3
   refine⟨_,?_,.inr ⟨j,_,rfl,rfl,p0⟩⟩
   have h:=ah HDN j hlt
   rw [ah kV] at h
   exact h
 subst e0;have ku:=hide (FZ reqs[k]);generalize reqs[k]=sk at *;generalize RQ sk=OB at *;obtain⟨si,sx,sn,st⟩:=sk;dsimp only at q0 q1 q2 q3 hks M0 ku;obtain⟨pv,hpv,hpk⟩:=ah M0;have fF:=hide hpv;have FW:=hide hpk;obtain⟨bb,hbb⟩:∃bb,(!(decide (old+1≤si∧si≤1000000000)&&keyOk sx.data.toList&&eD sn&&decide (0≤st∧st≤2)&&pv))=bb:=⟨_,rfl⟩;have dY:=hide hbb;clear hpv hpk M0 hbb HDF HDN HDB;go_upto_region 13 with fail;refine wp_at (fun W1 hW1=>?_);have HW1:Hid (W1.heap[wr.heap.size]?=some (.cells #[.int .i64 si,.string sx,.int .i64 sn,.int .i64 st] 97 (0,0))):=by rw [hW1];exact heap_alloc_new _ _
 open ad4 in exact Vd):P:=h
theorem ahL.Ka108(h:P:=by
 obtain⟨c0,c1,c2,c3,c4,c5,c6,_⟩:=nine hblk;clear hall hbel hblk;by_cases hlt:k < seen.length
 case' neg=>
  have hke:k=seen.length:=by omega
  subst hke
  have hnlt:decide ((seen.length:Int) < (seen.length:Int))=false:=by simp
  have HF:Hid (TT=true):=by
   exact Nl
  go_wp2_with fail
  go_ret
  exact⟨aD HF.symm,fD⟩
 have HBAD:Hid (fT PP RR (seen.take (k+1))=false→TT=false):=fun h=>ku.trans (rX _ h)
 obtain⟨g,off,b,c,e0,hgw,q0,q1,q2,hI⟩:=jL.below HS fD k hlt;have Bh:(seen[k]).ids.length≤1048600:=ah Lf _ (List.getElem_mem hlt);have HI:=hide hI;have yj:=hide Bh;clear hI Bh
 have M0:Hid (∃pv:Bool,fT PP RR (seen.take (k+1))=((NN (seen[k]).f&&qz seen[k])&&pv)∧((k=0∧pv=true)∨∃(j:Nat) (y:Int),k=j+1∧pv=decide (y < (seen[k]).f)∧wr.cell? ⟨g,off+j*3,none⟩=some (.int .i64 y))):=by
  cases k with
  |zero=>
   refine⟨true,?_,.inl ⟨rfl,rfl⟩⟩
   have h:=ah yg hlt
   rw [Bool.and_true]
   exact h
  |succ j=>
   obtain⟨g',off',_,_,e2,_,p0,_⟩:=jL.below HS fD j (by omega)
   rw [e0] at e2
   injection e2 with e2
   injection e2 with e2 e3
   subst e2 e3
   refine⟨_,?_,.inr ⟨j,_,rfl,rfl,p0⟩⟩
   have h:=ah yK j hlt
   rw [ah kV] at h
   exact h
 subst e0;generalize hsk:seen[k]=sk at *;clear hsk;obtain⟨fr,lo,ids⟩:=sk;dsimp only at q0 q1 q2 HI yj M0;obtain⟨pv,hpv,hpk⟩:=ah M0;have fF:=hide hpv;have FW:=hide hpk;obtain⟨bb,hbb⟩:∃bb,(!(NN fr&&pv&&eD lo&&decide (ids.length≤40)))=bb:=⟨_,rfl⟩;have dY:=hide hbb;clear hpv hpk M0 hbb yg yK rX;go_upto_region 10 with fail;open akl in exact Yj):P:=h
theorem ahM.Ka108(h:P:=by
 obtain⟨c0,c1,c2,c3,c4,c5,c6,c7,c8⟩:=nine hblk;clear hall hbel hblk;by_cases hlt:k < out.length
 case' pos=>
  have HBAD:Hid (fT OT RO (out.take (k+1))=false→TT=false):=fun h=>by rw [ah HTT,ah rX _ h];rfl
  obtain⟨g,off,e0,hgw,q0,q1,q2,q3⟩:=SentAt.four (HA.below fD).o k hlt
  (try dsimp only at e0 q0 q1 q2 q3)
  have hks:=HZ.ok _ (List.getElem_mem hlt)
  (try dsimp only at hks)
  have M0:Hid (∃pv:Bool,fT OT RO (out.take (k+1))=(OT out[k]&&pv)∧((k=0∧pv=true)∨∃(j:Nat) (y:Int),k=j+1∧pv=decide (y < (out[k]).i)∧wr.cell? ⟨g,off+j*4,none⟩=some (.int .i64 y))):=by
   cases k with
   |zero=>
    refine⟨true,?_,.inl ⟨rfl,rfl⟩⟩
    rw [Bool.and_true]
    exact yg hlt
   |succ j=>
    obtain⟨g',off',e2,_,p0,_⟩:=SentAt.four (HA.below fD).o j (show j < out.length by omega)
    (try dsimp only at e2 p0)
    rw [e0] at e2
    injection e2 with e2
    injection e2 with e2 e3
    subst e2 e3
    refine⟨_,?_,.inr ⟨j,_,rfl,rfl,p0⟩⟩
    have h:=ah yK j hlt
    rw [ah kV] at h
    exact h
  subst e0
  have ku:=hide (HOT out[k])
  generalize out[k]=sk at *
  generalize OT sk=OB at *
  obtain⟨si,st,sx,sn⟩:=sk
  dsimp only at q0 q1 q2 q3 hks M0 ku
  obtain⟨pv,hpv,hpk⟩:=ah M0
  have fF:=hide hpv
  have FW:=hide hpk
  obtain⟨bb,hbb⟩:∃bb,(!(decide (1≤si∧si≤next - 1)&&NN st&&keyOk sx.data.toList&&eD sn&&pv))=bb:=⟨_,rfl⟩
  have dY:=hide hbb
  clear hpv hpk M0 hbb yg yK rX
  go_upto_region 7 with fail
  refine wp_at (fun W1 hW1=>?_)
  have HW1:Hid (W1.heap[wr.heap.size]?=some (.cells #[.int .i64 si,.int .i64 st,.string sx,.int .i64 sn] 95 (0,0))):=by rw [hW1];exact heap_alloc_new _ _
  have hbw:Below wr.heap.size wr W1:=by rw [hW1];exact au wr _
  have wK:=hide (aj DC hbw)
  have qp:=hide (fD.trans (hbw.mono fD.size))
  have hgw1:=hbw.size
  have yw:Hid ((k=0∧pv=true)∨∃(j:Nat) (y:Int),k=j+1∧pv=decide (y < si)∧W1.cell? ⟨g,off+j*4,none⟩=some (.int .i64 y)):=by
   exact Y7
  clear hW1 hbw q0 q1 q2 q3 c0 c1 c2 c3 c4 c5 c6 c7 c8 FW DC
  obtain⟨d0,d1,d2,d3⟩:=eY HW1
  obtain⟨c0,c1,c2,c3,c4,c5,c6,c7,c8⟩:=nine wK
  have k0:=cell_grown' c0
  have k1:=cell_grown' c1
  have k2:=cell_grown' c2
  have k3:=cell_grown' c3
  have k4:=cell_grown' c4
  have k5:=cell_grown' c5
  have k6:=cell_grown' c6
  have k7:=cell_grown' c7
  have k8:=cell_grown' c8
  have m0:=cell_grown' d0
  have m1:=cell_grown' d1
  have m2:=cell_grown' d2
  have m3:=cell_grown' d3
  have en:IntKind.i64.wrap (next - 1)=next - 1:=IntWalk.i64_in _ ⟨by omega,by omega⟩
  go_cut [98] (fun r wx=>r= .bool bb∧Below W1.heap.size W1 wx)
  case first=>
   rcases yw with⟨rfl,rfl⟩|⟨j,y,rfl,rfl,q1⟩
   ·have hgt:decide ((0:Int) < ((0:Nat):Int))=false:=rfl;open ao5 in exact Ya9
   ·have hgt:decide ((0:Int) < ((j+1:Nat):Int))=true:=decide_eq_true (by omega);have m9:=cell_grown' q1;open ao4 in exact Ya9
  case rest=>
   obtain⟨rfl,hbx⟩:=hcut;open aiN in exact LW
 open ahv in exact LD):P:=h
theorem ahN.Ka108(h:P:=by
 obtain⟨c0,c1,c2,_⟩:=nine hblk;clear hall hbel hblk;by_cases hlt:k < kids.length
 case' neg=>
  have hke:k=kids.length:=by omega
  subst hke
  have hnlt:decide ((kids.length:Int) < (kids.length:Int))=false:=by simp
  have HF:Hid (bQ ⟨id,par,kids,next,pu,out,seen,old,reqs⟩=true):=by
   exact Nl
  go_wp2_with fail
  go_ret
  exact⟨aD HF.symm,fD⟩
 have HBAD:Hid (fT (iE id par) gJ (kids.take (k+1))=false→bQ ⟨id,par,kids,next,pu,out,seen,old,reqs⟩=false):=fun h=>ku.trans (rX _ h)
 cases k with
 |zero=>
  obtain⟨g,off,rfl,hgw,q0⟩:=dK.one (GR.At.below HA fD) 0 hlt
  rw [Nat.add_zero] at q0
  have hgt:decide ((0:Int) < ((0:Nat):Int))=false:=rfl
  have fF:Hid (fT (iE id par) gJ (kids.take 1)=iE id par kids[0]):=ah yg hlt
  clear yg yK rX
  generalize kids[0]=x at *
  cases hx1:nY x
  case' false=>
   have HP:=hide (HBAD (by rw [ah fF];simp[iE,hx1]))
   clear HBAD fF
   go_wp2_with fail
   refine wp_region_quiet_lit (by kernel_rfl) (by kernel_rfl) ?_
   repeat (first|go_big_quiet_step ((first|(go_at_call 134;exact j6 _ _ hx1 _ _)))|quiet_step ((first|(go_at_call 134;exact j6 _ _ hx1 _ _))))
   refine wpQuiet_nil ?_
   intro _ hw'
   obtain⟨nq,hw''⟩:=hw'
   subst hw''
   go_wp2_with fail
   go_ret
   exact⟨aD HP.symm,fD.trans ⟨rfl,rfl,rfl,Nat.le_refl _,fun _ _=>rfl⟩⟩
  by_cases hx2:x=id
  case' pos=>
   have hy2:(x == id)=true:=by simp[hx2]
   have HP:=hide (HBAD (by rw [ah fF];simp[iE,hx2]))
   clear HBAD fF hx2
   go_wp2_with fail
   refine wp_region_quiet_lit (by kernel_rfl) (by kernel_rfl) ?_
   repeat (first|go_big_quiet_step ((first|(go_at_call 134;exact j6 _ _ hx1 _ _)))|quiet_step ((first|(go_at_call 134;exact j6 _ _ hx1 _ _))))
   refine wpQuiet_nil ?_
   intro _ hw'
   obtain⟨nq,hw''⟩:=hw'
   subst hw''
   go_wp2_with fail
   go_ret
   exact⟨aD HP.symm,fD.trans ⟨rfl,rfl,rfl,Nat.le_refl _,fun _ _=>rfl⟩⟩
  have hy2:(x == id)=false:=by simp[hx2]
  by_cases hx3:x=par
  case' pos=>
   have hy3:(x == par)=true:=by simp[hx3]
   have HP:=hide (HBAD (by rw [ah fF];simp[iE,hx3]))
   clear HBAD fF hx3
   go_wp2_with fail
   refine wp_region_quiet_lit (by kernel_rfl) (by kernel_rfl) ?_
   repeat (first|go_big_quiet_step ((first|(go_at_call 134;exact j6 _ _ hx1 _ _)))|quiet_step ((first|(go_at_call 134;exact j6 _ _ hx1 _ _))))
   refine wpQuiet_nil ?_
   intro _ hw'
   obtain⟨nq,hw''⟩:=hw'
   subst hw''
   go_wp2_with fail
   go_ret
   exact⟨aD HP.symm,fD.trans ⟨rfl,rfl,rfl,Nat.le_refl _,fun _ _=>rfl⟩⟩
  have hy3:(x == par)=false:=by simp[hx3]
  have HG:=hide (show fT (iE id par) gJ (kids.take (0+1))=true by rw [ah fF];simp[iE,hx1,hx2,hx3])
  clear HBAD fF
  go_wp2_with fail
  refine wp_region_quiet_lit (by kernel_rfl) (by kernel_rfl) ?_
  repeat (first|go_big_quiet_step ((first|(go_at_call 134;exact j6 _ _ hx1 _ _)))|quiet_step ((first|(go_at_call 134;exact j6 _ _ hx1 _ _))))
  refine wpQuiet_nil ?_
  intro _ hw'
  obtain⟨nq,hw''⟩:=hw'
  subst hw''
  go_wp2_with fail
  go_roundw
  case rel=>exact⟨0+1,by omega,by go_num,HG,DC,fD.trans ⟨rfl,rfl,rfl,Nat.le_refl _,fun _ _=>rfl⟩⟩
  case measure=>simp[intOf];omega
 |succ j=>
  obtain⟨g,off,e1,hgw,q0⟩:=dK.one (GR.At.below HA fD) (j+1) hlt
  obtain⟨g',off',e2,arM,q1⟩:=dK.one (GR.At.below HA fD) j (by omega)
  rw [e1] at e2
  injection e2 with e2
  injection e2 with e2 e3
  subst e2 e3 e1
  have hgt:decide ((0:Int) < ((j+1:Nat):Int))=true:=decide_eq_true (by omega)
  have fF:Hid (fT (iE id par) gJ (kids.take (j+1+1))=(iE id par kids[j+1]&&gJ kids[j] kids[j+1])):=by
   have h:=ah yK j hlt;rw [ah kV] at h;exact h
  clear yg yK rX
  generalize kids[j]=y at *
  generalize kids[j+1]=x at *
  cases hx1:nY x
  case' false=>
   have HP:=hide (HBAD (by rw [ah fF];simp[iE,hx1]))
   clear HBAD fF
   go_wp2_with fail
   refine wp_region_quiet_lit (by kernel_rfl) (by kernel_rfl) ?_
   repeat (first|go_big_quiet_step ((first|(go_at_call 134;exact j6 _ _ hx1 _ _)))|quiet_step ((first|(go_at_call 134;exact j6 _ _ hx1 _ _))))
   refine wpQuiet_nil ?_
   intro _ hw'
   obtain⟨nq,hw''⟩:=hw'
   subst hw''
   go_wp2_with fail
   go_ret
   exact⟨aD HP.symm,fD.trans ⟨rfl,rfl,rfl,Nat.le_refl _,fun _ _=>rfl⟩⟩
  by_cases hx2:x=id
  case' pos=>
   have hy2:(x == id)=true:=by simp[hx2]
   have HP:=hide (HBAD (by rw [ah fF];simp[iE,hx2]))
   clear HBAD fF hx2
   go_wp2_with fail
   refine wp_region_quiet_lit (by kernel_rfl) (by kernel_rfl) ?_
   repeat (first|go_big_quiet_step ((first|(go_at_call 134;exact j6 _ _ hx1 _ _)))|quiet_step ((first|(go_at_call 134;exact j6 _ _ hx1 _ _))))
   refine wpQuiet_nil ?_
   intro _ hw'
   obtain⟨nq,hw''⟩:=hw'
   subst hw''
   go_wp2_with fail
   go_ret
   exact⟨aD HP.symm,fD.trans ⟨rfl,rfl,rfl,Nat.le_refl _,fun _ _=>rfl⟩⟩
  have hy2:(x == id)=false:=by simp[hx2]
  by_cases hx3:x=par
  case' pos=>
   have hy3:(x == par)=true:=by simp[hx3]
   have HP:=hide (HBAD (by rw [ah fF];simp[iE,hx3]))
   clear HBAD fF hx3
   go_wp2_with fail
   refine wp_region_quiet_lit (by kernel_rfl) (by kernel_rfl) ?_
   repeat (first|go_big_quiet_step ((first|(go_at_call 134;exact j6 _ _ hx1 _ _)))|quiet_step ((first|(go_at_call 134;exact j6 _ _ hx1 _ _))))
   refine wpQuiet_nil ?_
   intro _ hw'
   obtain⟨nq,hw''⟩:=hw'
   subst hw''
   go_wp2_with fail
   go_ret
   exact⟨aD HP.symm,fD.trans ⟨rfl,rfl,rfl,Nat.le_refl _,fun _ _=>rfl⟩⟩
  have hy3:(x == par)=false:=by simp[hx3]
  by_cases hx4:y < x
  case' neg=>
   have hy4:decide (x≤y)=true:=decide_eq_true (by omega)
   have HP:=hide (HBAD (by rw [ah fF];simp[iE,gJ,hx4]))
   clear HBAD fF
   go_wp2_with fail
   refine wp_region_quiet_lit (by kernel_rfl) (by kernel_rfl) ?_
   repeat (first|go_big_quiet_step ((first|(go_at_call 134;exact j6 _ _ hx1 _ _)))|quiet_step ((first|(go_at_call 134;exact j6 _ _ hx1 _ _))))
   refine wpQuiet_nil ?_
   intro _ hw'
   obtain⟨nq,hw''⟩:=hw'
   subst hw''
   go_wp2_with fail
   go_ret
   exact⟨aD HP.symm,fD.trans ⟨rfl,rfl,rfl,Nat.le_refl _,fun _ _=>rfl⟩⟩
  have hy4:decide (x≤y)=false:=decide_eq_false (by omega)
  have HG:=hide (show fT (iE id par) gJ (kids.take (j+1+1))=true by rw [ah fF];simp[iE,hx1,hx2,hx3,gJ,hx4])
  clear HBAD fF
  go_wp2_with fail
  refine wp_region_quiet_lit (by kernel_rfl) (by kernel_rfl) ?_
  repeat (first|go_big_quiet_step ((first|(go_at_call 134;exact j6 _ _ hx1 _ _)))|quiet_step ((first|(go_at_call 134;exact j6 _ _ hx1 _ _))))
  refine wpQuiet_nil ?_
  intro _ hw'
  obtain⟨nq,hw''⟩:=hw'
  subst hw''
  go_wp2_with fail
  go_roundw
  case rel=>exact⟨j+1+1,by omega,by go_num,HG,DC,fD.trans ⟨rfl,rfl,rfl,Nat.le_refl _,fun _ _=>rfl⟩⟩
  case measure=>simp[intOf];omega):P:=h
theorem Xl(h:P:=by
 obtain⟨⟨p0,p1,p2,p3,p4,p5,p6,p7,p8,p9,lT⟩,_⟩:=dP HO;obtain⟨c0,c1,c2,c3,c4,c5,c6,c7,c8⟩:=nine HN;have hol:=aA HO;have hnl:=aA HN;go_wp2_with fail;refine(FZ W0 Fz.at.r).mono ?_;rintro e W1 ⟨rfl,hb1⟩;have jg:=hide (aj HN hb1);have MX:=hide (aj HO hb1);have mD:=hide (aj HR hb1);have HB1:=hide (HB0.trans (hb1.mono HB0.size));exact Ka109):P:=h
theorem ahO.Ka109(h:P:=by
 clear hb1 c0 c1 c2 c3 c4 c5 c6 c7 c8 p0 p1 p2 p3 p4 p5 p6 p7 p8 p9 lT hnl hol FZ HN HO HR Fz HB0;obtain⟨⟨p0,p1,p2,p3,p4,p5,p6,p7,p8,p9,lT⟩,_⟩:=dP MX;obtain⟨c0,c1,c2,c3,c4,c5,c6,c7,c8⟩:=nine jg;have hol:=aA MX;have hnl:=aA jg;have hrl:=aA mD;go_upto_region 9 with fail;refine wp_at (fun W2 hW2=>?_);have hbw2:=au W1 (.cells #[.int .i64 no,.string k,.int .i64 nn,.int .i64 1] 97);have hq2:=heap_alloc_new W1 (.cells #[.int .i64 no,.string k,.int .i64 nn,.int .i64 1] 97);rw [←hW2] at hbw2 hq2;have iQ:=hide (aj jg hbw2);have AV:=hide (aj MX hbw2);have iI:=hide (aj mD hbw2);have aay:=hide hq2;have HB2:=hide (HB1.trans (hbw2.mono HB1.size));have hqb:w.heap.size+2 < W1.heap.size:=hrl;clear hW2 hbw2 hq2 c0 c1 c2 c3 c4 c5 c6 c7 c8 p0 p1 p2 p3 p4 p5 p6 p7 p8 p9 lT jg MX mD HB1 hnl hol hrl;obtain⟨⟨p0,p1,p2,p3,p4,p5,p6,p7,p8,p9,lT⟩,_⟩:=dP AV;obtain⟨c0,c1,c2,c3,c4,c5,c6,c7,c8⟩:=nine iQ;have hol:=aA AV;have hnl:=aA iQ;have hql:=aA aay;go_wp2_with fail;refine(M8 W2 (jY.kc (k:=9) (KC.of_below HB2) (by omega)).at.p).mono ?_;rintro e W3 ⟨v3,rfl,abr,hrow3,hb3⟩;obtain⟨av,cv,rfl,_⟩:=GR.own_at (enc:=eG) (sz:=4) aZ hrow3;have HRW:=hide (LO.own (en:=eG) hrow3);have jC:=hide (aj iQ hb3);have DU:=hide (aj AV hb3);have jD:=hide (aj iI hb3);have JE:=hide (aj aay hb3);have HB3:=hide (HB2.trans (hb3.mono HB2.size));clear hb3 abr hrow3 M8 iQ AV iI aay HB2 c0 c1 c2 c3 c4 c5 c6 c7 c8 p0 p1 p2 p3 p4 p5 p6 p7 p8 p9 lT hnl hol;obtain⟨c0,c1,c2,c3,c4,c5,c6,c7,c8⟩:=nine jC;obtain⟨q0,q1,q2,q3⟩:=eY JE;have cf:=ay jC 4;have qf:=ay JE 3;exact Ka14):P:=h
theorem ahP.Ka109(h:P:=by
 have sW:=hide (Fz.kc (k:=9) (KC.of_below hb1) (by omega));clear hb1 c0 c1 c2 c3 c4 c5 c6 c7 c8 p0 p1 p2 p3 p4 p5 p6 p7 p8 p9 lT hnl hol FZ HN HO HR Fz HB0;obtain⟨g,off,e0,hg,q0,q1,q2,q3⟩:=iA.four sW.at.r i hi;rw [ah acI] at q0 q1 q2 q3;clear acI;obtain⟨rno,rk,rn,rs⟩:=rq;exact Ka3):P:=h
theorem LJ(h:P:=by
 clear UF HYk;go_wp2_with fail;refine(HCk wr HB).mono ?_;rintro e w1 ⟨rfl,hb1⟩;have HB1:=hide (HB.trans (hb1.mono HB.size));rw [hq];exact Ka110):P:=h
theorem ahQ.Ka110(h:P:=by
 clear hb1 q0 q1 q2;exact Zf):P:=h
theorem ahR.Ka110(h:P:=by
 clear hb1 q0 q1 q2;go_wp2_with fail;go_ret;exact⟨rfl,HB1⟩):P:=h
theorem ahS.Ka110(h:P:=by
 clear hb1 q0 q1 q2 q3;exact Zf):P:=h
theorem ahT.Ka110(h:P:=by
 clear hb1 q0 q1 q2 q3;go_wp2_with fail;go_ret;exact⟨by simp,HB1⟩):P:=h
theorem Xm(h:P:=by
 clear Nv HRW;clear c0 c1 c2 c3 c4 c5 c6 c7 c8 q0 q1 q2 q3 cf qf jC DU jD JE HB3;have HA4:=hide (jY.kc (k:=9) (KC.of_below nK) (by omega)).at.r;obtain⟨c0,c1,c2,c3,c4,c5,c6,c7,c8⟩:=nine wN;obtain⟨⟨p0,p1,p2,p3,p4,p5,p6,p7,p8,p9,lT⟩,_⟩:=dP UJ;have hnl:=aA wN;have hol:=aA UJ;have hile:=rO n.reqs no;go_upto_block 0 with fail;exact Ka111):P:=h
theorem ahU.Ka111(h:P:=by
 go_cut [10] from 11 (fun i wx=>i= .int .i64 (dx n.reqs no:Nat)∧Ge W4 wx)
 case first=>
  exact amO
 case rest=>
  open akk in exact Yi):P:=h
theorem ahV.Ka111(h:P:=by
 go_cut [10] from 11 (fun i wx=>i= .int .i64 (dx n.reqs no:Nat)∧Ge W4 wx)
 case first=>
  exact amO
 case rest=>
  open akj in exact Yi):P:=h
theorem Xn(h:P:=by
 have q3s:=Rf (g:=w.heap.size+2) (i:=3) (b0:= .int .i64 n.id) (b1:= .int .i64 n.par) (b2:= .slice a_k n.kids.length aI) (b3:= .int .i64 n.next) (b4:= .slice av RL.length cv) (b5:= .slice dA n.out.length aM) (b6:= .slice dJ n.seen.length aJ) (b7:= .int .i64 n.old) (b8:= .slice (some ⟨gv,0,none⟩) (n.reqs.length+1) vc) (show w.heap.size+2≠W1.heap.size by omega) Jy;exact Ka112):P:=h
theorem ahW.Ka112(h:P:=by
 open ael in exact Gi):P:=h
theorem ahX.Ka112(h:P:=by
 go_simp;refine aG 1 rfl (by kernel_rfl) (by rfl) ?_;open aem in exact Gi):P:=h
theorem Xo(h:P:=by
 have q3s:=Rf (g:=w.heap.size+2) (i:=3) (b0:= .int .i64 n.id) (b1:= .int .i64 n.par) (b2:= .slice a_k n.kids.length aI) (b3:= .int .i64 n.next) (b4:= .slice av RL.length cv) (b5:= .slice dA n.out.length aM) (b6:= .slice dJ n.seen.length aJ) (b7:= .int .i64 IH.no) (b8:= .slice (some ⟨g8,0,none⟩) n.reqs.length zn) (show w.heap.size+2≠W1.heap.size by omega) Jy;exact Ka113):P:=h
theorem ahY.Ka113(h:P:=by
 open aej in exact Gi):P:=h
theorem ahZ.Ka113(h:P:=by
 go_simp;refine aG 1 rfl (by kernel_rfl) (by rfl) ?_;open aek in exact Gi):P:=h
theorem LK(h:P:=by
 go_simp;refine⟨Below.refl _ _,?_⟩;refine wF (by kernel_rfl) (fun x3 hx3=>?_);have hg3:=Ge.trans (Ge.trans hx hx2) hx3;clear Jy;exact Ka114):P:=h
theorem ah0.Ka114(h:P:=by
 have rC:=hide (aj iJ hg3);open aoN in exact Pk):P:=h
theorem ah1.Ka114(h:P:=by
 have rC:=hide (aj jA hg3);open aoQ in exact Pk):P:=h
theorem ah2.Ka114(h:P:=by
 have rC:=hide (aj iJ hg3);open aoH in exact Pk):P:=h
theorem ah3.Ka114(h:P:=by
 have rC:=hide (aj jA hg3);open aoK in exact Pk):P:=h
theorem Xp(h:P:=by
 obtain⟨d0,d1,d2,d3,d4,d5,d6,d7,d8⟩:=nine tu;have f0:=ay tu 0;have f1:=ay tu 1;have f2:=ay tu 2;have f3:=ay tu 3;have f4:=ay tu 4;have f5:=ay tu 5;have f6:=ay tu 6;have f7:=ay tu 7;have f8:=ay tu 8;have hrl:=aA tu;exact Ka115):P:=h
theorem ah4.Ka115(h:P:=by
 go_simp;refine aG 4 rfl (by kernel_rfl) (by rfl) ?_;go_simp;refine aG 6 rfl (by kernel_rfl) (by rfl) ?_;go_simp;refine aG 7 rfl (by kernel_rfl) (by rfl) ?_;go_simp;refine wpAny_done (by kernel_rfl) ?_;go_simp;clear d0 d1 d2 d3 d4 d5 d6 d7 d8 f0 f1 f2 f3 f4 f5 f6 f7 f8;go_wp2_with fail;refine aO (fun W' hW'=>?_)
 obtain⟨SW,hSW,hsz,hk0,e3⟩:∃SW:World,W'=SW.alloc (.cells #[.int .i64 qK,.int .i64 qF,.int .i64 qT,.int .i64 qI,.int .i64 qL,.string qk,.int .i64 qN] 32)∧SW.heap.size=z.heap.size∧aC [w.heap.size+1] z SW∧SW.heap[w.heap.size+1]?=some (.cells #[.int .i64 n.id,.int .i64 n.par,.slice a_k n.kids.length aI,.int .i64 (n.next+1),.slice av RL.length cv,.slice a6 (n.out.length+1) c6,.slice dJ n.seen.length aJ,.int .i64 n.old,.slice fq n.reqs.length aQ] 30 (0,0)):=
  ⟨GR.setW z (w.heap.size+1) 0 [.int .i64 n.id,.int .i64 n.par,.slice a_k n.kids.length aI,.int .i64 (n.next+1),.slice av RL.length cv,.slice a6 (n.out.length+1) c6,.slice dJ n.seen.length aJ,.int .i64 n.old,.slice fq n.reqs.length aQ],hW',by simp[GR.setW],aL [.int .i64 n.id,.int .i64 n.par,.slice a_k n.kids.length aI,.int .i64 (n.next+1),.slice av RL.length cv,.slice a6 (n.out.length+1) c6,.slice dJ n.seen.length aJ,.int .i64 n.old,.slice fq n.reqs.length aQ] z 0,GR.setW_blk [.int .i64 n.id,.int .i64 n.par,.slice a_k n.kids.length aI,.int .i64 (n.next+1),.slice av RL.length cv,.slice a6 (n.out.length+1) c6,.slice dJ n.seen.length aJ,.int .i64 n.old,.slice fq n.reqs.length aQ] (o:=0) (xs:=[.int .i64 0,.int .i64 0,.slice none 0 0,.int .i64 0,.slice none 0 0,.slice none 0 0,.slice none 0 0,.int .i64 0,.slice none 0 0]) tu⟩
 have e4:W'.heap[w.heap.size+1]?=some (.cells #[.int .i64 n.id,.int .i64 n.par,.slice a_k n.kids.length aI,.int .i64 (n.next+1),.slice av RL.length cv,.slice a6 (n.out.length+1) c6,.slice dJ n.seen.length aJ,.int .i64 n.old,.slice fq n.reqs.length aQ] 30 (0,0)):=by rw [hSW];exact aj e3 (au SW _)
 have eU:aC [w.heap.size+1] z W':=by rw [hSW];exact hk0.trans (aC.of_below (au SW _))
 have hm:W'.heap[z.heap.size]?=some (.cells #[.int .i64 qK,.int .i64 qF,.int .i64 qT,.int .i64 qI,.int .i64 qL,.string qk,.int .i64 qN] 32 (0,0)):=by rw [hSW,←hsz];exact heap_alloc_new SW _
 have Um:=hide (yh W' z.heap.size ((aC.of_below HZ).trans eU) hm (by have:=aA tu;omega));obtain⟨x0,x1,x2,x3,x4,x5,x6,x7,x8⟩:=nine e4;clear hW' e4 eU hm hSW hsz hk0 e3;exact bodyPost_ret (v:= .tuple #[.agg #[.int .i64 n.id,.int .i64 n.par,.slice a_k n.kids.length aI,.int .i64 (n.next+1),.slice av RL.length cv,.slice a6 (n.out.length+1) c6,.slice dJ n.seen.length aJ,.int .i64 n.old,.slice fq n.reqs.length aQ],.slice (some ⟨z.heap.size,0,none⟩) 1 1,.int .i64 0]) (by simp[results,Tryz.results42,go_sem,x0,x1,x2,x3,x4,x5,x6,x7,x8]) rfl ⟨⟨a_k,av,a6,dJ,fq,aI,cv,c6,aJ,aQ⟩,some ⟨z.heap.size,0,none⟩,1,by rw [ah HNV],Um.1,Um.2.1,Um.2.2.1,Um.2.2.2⟩):P:=h
theorem ah5.Ka115(h:P:=by
 refine aG 5 rfl (by kernel_rfl) (by rfl) ?_;go_simp;refine aG 6 rfl (by kernel_rfl) (by rfl) ?_;go_simp;refine aG 7 rfl (by kernel_rfl) (by rfl) ?_;go_simp;refine wpAny_done (by kernel_rfl) ?_;go_simp;clear d0 d1 d2 d3 d4 d5 d6 d7 d8 f0 f1 f2 f3 f4 f5 f6 f7 f8 hrl;go_wp2_with fail;refine aO (fun W' hW'=>?_)
 have e4:W'.heap[w.heap.size+1]?=some (.cells #[.int .i64 n.id,.int .i64 n.par,.slice a_k n.kids.length aI,.int .i64 (n.next+1),.slice av RL.length cv,.slice a6 (n.out.length+1) c6,.slice dJ n.seen.length aJ,.int .i64 n.old,.slice fq n.reqs.length aQ] 30 (0,0)):=by
  rw [hW'];exact GR.setW_blk [.int .i64 n.id,.int .i64 n.par,.slice a_k n.kids.length aI,.int .i64 (n.next+1),.slice av RL.length cv,.slice a6 (n.out.length+1) c6,.slice dJ n.seen.length aJ,.int .i64 n.old,.slice fq n.reqs.length aQ] (o:=0) (xs:=[.int .i64 0,.int .i64 0,.slice none 0 0,.int .i64 0,.slice none 0 0,.slice none 0 0,.slice none 0 0,.int .i64 0,.slice none 0 0]) tu
 have eU:aC [w.heap.size+1] z2 W':=by
  rw [hW'];exact aL [.int .i64 n.id,.int .i64 n.par,.slice a_k n.kids.length aI,.int .i64 (n.next+1),.slice av RL.length cv,.slice a6 (n.out.length+1) c6,.slice dJ n.seen.length aJ,.int .i64 n.old,.slice fq n.reqs.length aQ] z2 0
 have Um:=hide (yh W' z.heap.size ((aC.of_below HZ2).trans eU) (eU.obj HM2 (fun hm=>by have:z.heap.size=w.heap.size+1:=(by simpa using hm);omega)) (by omega));obtain⟨x0,x1,x2,x3,x4,x5,x6,x7,x8⟩:=nine e4;clear hW' e4 eU;exact bodyPost_ret (v:= .tuple #[.agg #[.int .i64 n.id,.int .i64 n.par,.slice a_k n.kids.length aI,.int .i64 (n.next+1),.slice av RL.length cv,.slice a6 (n.out.length+1) c6,.slice dJ n.seen.length aJ,.int .i64 n.old,.slice fq n.reqs.length aQ],.slice (some ⟨z.heap.size,0,none⟩) 1 1,.int .i64 0]) (by simp[results,Tryz.results42,go_sem,x0,x1,x2,x3,x4,x5,x6,x7,x8]) rfl ⟨⟨a_k,av,a6,dJ,fq,aI,cv,c6,aJ,aQ⟩,some ⟨z.heap.size,0,none⟩,1,by rw [ah HNV],Um.1,Um.2.1,Um.2.2.1,Um.2.2.2⟩):P:=h
theorem Xq(h:P:=by
 have hnl:=aA HN;have hol:=aA HO;go_wp2_with fail;refine(ku W1 HB1).mono ?_;rintro e W2 ⟨rfl,hb2⟩;have iQ:=hide (aj HN hb2);have AV:=hide (aj HO hb2);have iI:=hide (aj HR hb2);have HB2:=hide (HB1.trans (hb2.mono HB1.size));clear hb2 c0 c1 c2 c3 c4 c5 c6 c7 c8 p0 p1 p2 p3 p4 p5 p6 p7 p8 p9 lT hnl hol ku HN HO HR HB1;exact Ka116):P:=h
theorem ah6.Ka116(h:P:=by
 obtain⟨⟨p0,p1,p2,p3,p4,p5,p6,p7,p8,p9,lT⟩,_⟩:=dP AV;have hol:=aA AV;go_wp2_with fail;refine(Lj W2).mono ?_;rintro e W4 ⟨rfl,hb4⟩;have yu:=hide (aj iQ hb4);have aav:=hide (aj AV hb4);have uM:=hide (aj iI hb4);have jJ:=hide (HB2.trans (hb4.mono HB2.size));clear hb4 p0 p1 p2 p3 p4 p5 p6 p7 p8 p9 lT hol Lj iQ AV iI HB2;obtain⟨c0,c1,c2,c3,c4,c5,c6,c7,c8⟩:=nine yu;have hnl:=aA yu;go_wp2_with fail;refine(Fw W4 jJ).mono ?_;exact Ka50):P:=h
theorem ah7.Ka116(h:P:=by
 obtain⟨c0,c1,c2,c3,c4,c5,c6,c7,c8⟩:=nine iQ;have hnl:=aA iQ;go_wp2_with fail;refine(Fw W2 HB2).mono ?_;rintro e W3 ⟨A1,G1,cc,rfl,J3,hb3,_,_⟩;have jD:=hide (aj iI hb3);have HB3:=hide (HB2.trans (hb3.mono HB2.size));have jY:=hide J3;have hrs:=aA iI;clear hb3 J3 c0 c1 c2 c3 c4 c5 c6 c7 c8 hnl Fw iQ AV iI;exact amM):P:=h
theorem Xr(h:P:=by
 have hrl:=aA qB;go_wp2_with fail;refine aO (fun W' hW'=>?_)
 have e4:W'.heap[w.heap.size+2]?=some (.cells #[.int .i64 n.id,.int .i64 n.par,.slice A.k n.kids.length A.ck,.int .i64 n.next,.slice A.p n.pu.length A.cp,.slice A.o n.out.length A.co,.slice A.s n.seen.length A.cs,.int .i64 n.old,.slice A.r n.reqs.length A.cr] 30 (0,0)):=by
  exact amX
 exact Ka117):P:=h
theorem ah8.Ka117(h:P:=by
 have eU:aC [w.heap.size+2] (W2.alloc (.cells #[] 32)) W':=by
  exact ap2
 open af2 in exact amn):P:=h
theorem ah9.Ka117(h:P:=by
 have eU:aC [w.heap.size+2] (W1.alloc (.cells #[] 32)) W':=by
  rw [hW'];exact aL [.int .i64 n.id,.int .i64 n.par,.slice A.k n.kids.length A.ck,.int .i64 n.next,.slice A.p n.pu.length A.cp,.slice A.o n.out.length A.co,.slice A.s n.seen.length A.cs,.int .i64 n.old,.slice A.r n.reqs.length A.cr] (W1.alloc (.cells #[] 32)) 0
 open af3 in exact amn):P:=h
theorem Xt(h:P:=by
 have hrl:=aA oH;go_wp2_with fail;refine aO (fun W' hW'=>?_)
 have e4:W'.heap[w.heap.size+1]?=some (.cells #[.int .i64 n.id,.int .i64 n.par,.slice A.k n.kids.length A.ck,.int .i64 n.next,.slice A.p n.pu.length A.cp,.slice A.o n.out.length A.co,.slice A.s n.seen.length A.cs,.int .i64 n.old,.slice A.r n.reqs.length A.cr] 30 (0,0)):=by
  exact apW
 exact Ka118):P:=h
theorem aia.Ka118(h:P:=by
 have eU:aC [w.heap.size+1] W1 W':=by
  rw [hW'];exact aL [.int .i64 n.id,.int .i64 n.par,.slice A.k n.kids.length A.ck,.int .i64 n.next,.slice A.p n.pu.length A.cp,.slice A.o n.out.length A.co,.slice A.s n.seen.length A.cs,.int .i64 n.old,.slice A.r n.reqs.length A.cr] W1 0
 open agl in exact amq):P:=h
theorem aib.Ka118(h:P:=by
 have eU:aC [w.heap.size+1] W0 W':=by
  exact am4
 have HAT:=hide (fun W'' (ho:Out c w W' W'')=>(Fz.kc (k:=9) ((KC.keeps eU (fun x hx=>by have:x=w.heap.size+1:=(by simpa using hx);rw [this];exact aT (by omega))).trans (KC.out H9 ho)) (by omega)).rm);have jW:Hid (Below B w W'):=(HB0.mono hB).trans (eU.below (fun x hx=>by have:x=w.heap.size+1:=(by simpa using hx);omega) (Nat.le_trans hB (HB0.mono hB).size));have oJ:=hide (Apart.keeps (c:=c) (Apart.of_below (HB0)) (HB0.mono hB).size eU (fun x hx=>by have:x=w.heap.size+1:=(by simpa using hx);omega));obtain⟨x0,x1,x2,x3,x4,x5,x6,x7,x8⟩:=nine e4;clear hW' e4 eU;exact bodyPost_ret (v:= .tuple #[.agg #[.int .i64 n.id,.int .i64 n.par,.slice A.k n.kids.length A.ck,.int .i64 n.next,.slice A.p n.pu.length A.cp,.slice A.o n.out.length A.co,.slice A.s n.seen.length A.cs,.int .i64 n.old,.slice A.r n.reqs.length A.cr],.int .i64 2]) (by simp[results,Tryz.results40,go_sem,x0,x1,x2,x3,x4,x5,x6,x7,x8]) rfl ⟨A,rfl,HAT,jW,oJ⟩):P:=h
theorem Xu(h:P:=by
 obtain⟨d0,d1,d2,d3,d4,d5,d6,d7,d8⟩:=nine jD;have f0:=ay jD 0;have f1:=ay jD 1;have f2:=ay jD 2;have f3:=ay jD 3;have f4:=ay jD 4;have f5:=ay jD 5;have f6:=ay jD 6;have f7:=ay jD 7;have f8:=ay jD 8;have hrl:=aA jD;go_wp2_with fail;refine aO (fun W' hW'=>?_);exact Ka119):P:=h
theorem aic.Ka119(h:P:=by
 have e4:W'.heap[w.heap.size+2]?=some (.cells #[.int .i64 N1.id,.int .i64 N1.par,.slice A1.k N1.kids.length A1.ck,.int .i64 N1.next,.slice A1.p N1.pu.length A1.cp,.slice A1.o N1.out.length A1.co,.slice A1.s N1.seen.length A1.cs,.int .i64 N1.old,.slice A1.r N1.reqs.length A1.cr] 30 (0,0)):=by
  rw [hW'];exact GR.setW_blk [.int .i64 N1.id,.int .i64 N1.par,.slice A1.k N1.kids.length A1.ck,.int .i64 N1.next,.slice A1.p N1.pu.length A1.cp,.slice A1.o N1.out.length A1.co,.slice A1.s N1.seen.length A1.cs,.int .i64 N1.old,.slice A1.r N1.reqs.length A1.cr] (o:=0) (xs:=[.int .i64 0,.int .i64 0,.slice none 0 0,.int .i64 0,.slice none 0 0,.slice none 0 0,.slice none 0 0,.int .i64 0,.slice none 0 0]) jD
 have eU:aC [w.heap.size+2] W3 W':=by
  rw [hW'];exact aL [.int .i64 N1.id,.int .i64 N1.par,.slice A1.k N1.kids.length A1.ck,.int .i64 N1.next,.slice A1.p N1.pu.length A1.cp,.slice A1.o N1.out.length A1.co,.slice A1.s N1.seen.length A1.cs,.int .i64 N1.old,.slice A1.r N1.reqs.length A1.cr] W3 0
 have HAT:=hide (fun W'' (ho:Out c w W' W'')=>(show RM W'' A1 N1 from(by
  obtain⟨F,hk,hF⟩:=ho
  exact Pw _ ⟨(w.heap.size+2)::F,aC.trans (b:=W') (eU.mono (fun x hx=>by simp at hx;simp[hx])) (hk.mono (fun x hx=>by simp[hx])),fun y hy=>by
   rcases List.mem_cons.1 hy with h1|h1
   ·exact LZ
   ·exact⟨Nat.lt_of_lt_of_le (hF y h1).1 h02,by rw [dH (hF y h1).1];exact(hF y h1).2⟩⟩)))
 have TU:=hide (fun W'' (ho:Out c w W' W'')=>(show GR.At gX 7 W'' ma L1 from(by
  obtain⟨F,hk,hF⟩:=ho
  exact Ut _ ⟨(w.heap.size+2)::F,aC.trans (b:=W') (eU.mono (fun x hx=>by simp at hx;simp[hx])) (hk.mono (fun x hx=>by simp[hx])),fun y hy=>by
   rcases List.mem_cons.1 hy with h1|h1
   ·exact LZ
   ·exact⟨Nat.lt_of_lt_of_le (hF y h1).1 h02,by rw [dH (hF y h1).1];exact(hF y h1).2⟩⟩)))
 have jW:Hid (Below B w W'):=HB3.trans (eU.below (fun x hx=>by have:x=w.heap.size+2:=(by simpa using hx);omega) (Nat.le_trans hB HB3.size));have oJ:=hide (Apart.keeps (c:=c) HK3 HB3.size eU (fun x hx=>by have:x=w.heap.size+2:=(by simpa using hx);omega));obtain⟨x0,x1,x2,x3,x4,x5,x6,x7,x8⟩:=nine e4;clear hW' e4 eU;exact bodyPost_ret (v:= .tuple #[.agg #[.int .i64 N1.id,.int .i64 N1.par,.slice A1.k N1.kids.length A1.ck,.int .i64 N1.next,.slice A1.p N1.pu.length A1.cp,.slice A1.o N1.out.length A1.co,.slice A1.s N1.seen.length A1.cs,.int .i64 N1.old,.slice A1.r N1.reqs.length A1.cr],.slice ma L1.length mc,.int .i64 xL]) (by simp[results,Tryz.results41,go_sem,x0,x1,x2,x3,x4,x5,x6,x7,x8]) rfl ⟨A1,ma,mc,rfl,HAT,TU,jW,oJ⟩):P:=h
theorem aie.Ka119(h:P:=by
 have e4:W'.heap[w.heap.size+2]?=some (.cells #[.int .i64 n.id,.int .i64 n.par,.slice A1.k n.kids.length A1.ck,.int .i64 n.next,.slice A1.p n.pu.length A1.cp,.slice A1.o n.out.length A1.co,.slice A1.s n.seen.length A1.cs,.int .i64 n.old,.slice A1.r n.reqs.length A1.cr] 30 (0,0)):=by
  rw [hW'];exact GR.setW_blk [.int .i64 n.id,.int .i64 n.par,.slice A1.k n.kids.length A1.ck,.int .i64 n.next,.slice A1.p n.pu.length A1.cp,.slice A1.o n.out.length A1.co,.slice A1.s n.seen.length A1.cs,.int .i64 n.old,.slice A1.r n.reqs.length A1.cr] (o:=0) (xs:=[.int .i64 0,.int .i64 0,.slice none 0 0,.int .i64 0,.slice none 0 0,.slice none 0 0,.slice none 0 0,.int .i64 0,.slice none 0 0]) jD
 have hkc:KC cc 0 W3 W':=by
  rw [hW'];exact KC.setW (o:=0) [.int .i64 n.id,.int .i64 n.par,.slice A1.k n.kids.length A1.ck,.int .i64 n.next,.slice A1.p n.pu.length A1.cp,.slice A1.o n.out.length A1.co,.slice A1.s n.seen.length A1.cs,.int .i64 n.old,.slice A1.r n.reqs.length A1.cr] (jY.lo _ hrs)
 have HAT:=hide (fun W'' (ho:Dx w W' W'')=>((jY.kc0 hkc).kc0 (ho.kc (fun x hx=>jY.lo x (by omega)))).rm)
 have jW:Hid (Below w.heap.size w W'):=by
  rw [hW'];exact GR.setW_below (by omega) [.int .i64 n.id,.int .i64 n.par,.slice A1.k n.kids.length A1.ck,.int .i64 n.next,.slice A1.p n.pu.length A1.cp,.slice A1.o n.out.length A1.co,.slice A1.s n.seen.length A1.cs,.int .i64 n.old,.slice A1.r n.reqs.length A1.cr] (o:=0) HB3
 obtain⟨x0,x1,x2,x3,x4,x5,x6,x7,x8⟩:=nine e4;clear hW' e4 hkc;exact bodyPost_ret (v:= .tuple #[.agg #[.int .i64 n.id,.int .i64 n.par,.slice A1.k n.kids.length A1.ck,.int .i64 n.next,.slice A1.p n.pu.length A1.cp,.slice A1.o n.out.length A1.co,.slice A1.s n.seen.length A1.cs,.int .i64 n.old,.slice A1.r n.reqs.length A1.cr],.slice (some ⟨W0.heap.size,0,none⟩) 0 0,.int .i64 3]) (by simp[results,Tryz.results9,go_sem,x0,x1,x2,x3,x4,x5,x6,x7,x8]) rfl ⟨A1,some ⟨W0.heap.size,0,none⟩,0,rfl,HAT,fun W'' _ i hi=>by simp at hi,jW⟩):P:=h
theorem Xv(h:P:=by
 obtain⟨d0,d1,d2,d3,d4,d5,d6,d7,d8⟩:=nine iJ;have f0:=ay iJ 0;have f1:=ay iJ 1;have f2:=ay iJ 2;have f3:=ay iJ 3;have f4:=ay iJ 4;have f5:=ay iJ 5;have f6:=ay iJ 6;have f7:=ay iJ 7;have f8:=ay iJ 8;have hrl:=aA iJ;go_wp2_with fail;refine aO (fun W' hW'=>?_);exact Ka120):P:=h
theorem aif.Ka120(h:P:=by
 have e4:W'.heap[w.heap.size+2]?=some (.cells #[.int .i64 n.id,.int .i64 n.par,.slice A1.k n.kids.length A1.ck,.int .i64 n.next,.slice A1.p n.pu.length A1.cp,.slice A1.o n.out.length A1.co,.slice A1.s n.seen.length A1.cs,.int .i64 n.old,.slice A1.r n.reqs.length A1.cr] 30 (0,0)):=by
  rw [hW'];exact GR.setW_blk [.int .i64 n.id,.int .i64 n.par,.slice A1.k n.kids.length A1.ck,.int .i64 n.next,.slice A1.p n.pu.length A1.cp,.slice A1.o n.out.length A1.co,.slice A1.s n.seen.length A1.cs,.int .i64 n.old,.slice A1.r n.reqs.length A1.cr] (o:=0) (xs:=[.int .i64 0,.int .i64 0,.slice none 0 0,.int .i64 0,.slice none 0 0,.slice none 0 0,.slice none 0 0,.int .i64 0,.slice none 0 0]) iJ
 have eU:aC [w.heap.size+2] W5 W':=by
  rw [hW'];exact aL [.int .i64 n.id,.int .i64 n.par,.slice A1.k n.kids.length A1.ck,.int .i64 n.next,.slice A1.p n.pu.length A1.cp,.slice A1.o n.out.length A1.co,.slice A1.s n.seen.length A1.cs,.int .i64 n.old,.slice A1.r n.reqs.length A1.cr] W5 0
 have HAT:=hide (fun W'' (ho:Dx w W' W'')=>((JB.kc (k:=9) (KC.keeps eU (fun x hx=>by have:x=w.heap.size+2:=(by simpa using hx);rw [this];exact uF)) (by omega)).kc (k:=9) (ho.kc (fun x hx=>PE x (by omega))) (by omega)).rm);open alf in exact YJ):P:=h
theorem aii.Ka120(h:P:=by
 have e4:W'.heap[w.heap.size+2]?=some (.cells #[.int .i64 N1.id,.int .i64 N1.par,.slice A2.k N1.kids.length A2.ck,.int .i64 N1.next,.slice A2.p N1.pu.length A2.cp,.slice A2.o N1.out.length A2.co,.slice A2.s N1.seen.length A2.cs,.int .i64 N1.old,.slice A2.r N1.reqs.length A2.cr] 30 (0,0)):=by
  rw [hW'];exact GR.setW_blk [.int .i64 N1.id,.int .i64 N1.par,.slice A2.k N1.kids.length A2.ck,.int .i64 N1.next,.slice A2.p N1.pu.length A2.cp,.slice A2.o N1.out.length A2.co,.slice A2.s N1.seen.length A2.cs,.int .i64 N1.old,.slice A2.r N1.reqs.length A2.cr] (o:=0) (xs:=[.int .i64 0,.int .i64 0,.slice none 0 0,.int .i64 0,.slice none 0 0,.slice none 0 0,.slice none 0 0,.int .i64 0,.slice none 0 0]) iJ
 have eU:aC [w.heap.size+2] W5 W':=by
  rw [hW'];exact aL [.int .i64 N1.id,.int .i64 N1.par,.slice A2.k N1.kids.length A2.ck,.int .i64 N1.next,.slice A2.p N1.pu.length A2.cp,.slice A2.o N1.out.length A2.co,.slice A2.s N1.seen.length A2.cs,.int .i64 N1.old,.slice A2.r N1.reqs.length A2.cr] W5 0
 have HAT:=hide (fun W'' (ho:Dx w W' W'')=>Pw W'' (ho.out (c:=c) (eU) hrx PE));have TU:=hide (fun W'' (ho:Dx w W' W'')=>Ut W'' (ho.out (c:=c) (eU) hrx PE));open ale in exact YJ):P:=h
theorem Xw(h:P:=by
 have hno:∀(listed:Array Bool),mY md ops listed→i∈Region.ready md ops listed→E∉Region.ready md ops listed:=fun listed hcl hr hEr=>by
  have h3:=zi hcl hEr n i hE
  have h4:=(mem_ready.1 hr).1
  rcases Nat.lt_or_ge i listed.size with h'|h'
  ·simp[h'] at h3 h4;rw [h4] at h3;cases h3
  ·simp[Array.getElem?_eq_none h'] at h3
 intro fuel;exact Ka121):P:=h
theorem aij.Ka121(h:P:=by
 induction fuel with
 |zero=>
  intro listed a w hcl _ hr hy H
  refine fun x hx=>⟨fun h=>(by rw [h] at hr;cases hr),fun j hj=>⟨fun e=>absurd (e▸hj) (hno listed hcl hr),fun _=>?_⟩⟩
  by_cases hji:j=i
  ·exact ZF
  ·exact Vm
 |succ fuel ih=>
  intro listed a w hcl hfree hr hy H
  refine fun x hx=>⟨fun h=>(by rw [h] at hr;cases hr),fun j hj=>⟨fun e=>absurd (e▸hj) (hno listed hcl hr),fun hjE=>?_⟩⟩
  by_cases hji:j=i
  ·exact ZF
  ·have h1:=((H x hx).2 j (ready_mono hj hji)).2 hjE;exact amQ):P:=h
theorem aik.Ka121(h:P:=by
 induction fuel with
 |zero=>
  intro listed a w hb hcl _ hr hy H
  refine fun x hx=>⟨fun h=>(by rw [h] at hr;cases hr),fun j hj=>⟨fun e=>absurd (e▸hj) (hno listed hcl hr),fun _=>?_⟩⟩
  by_cases hji:j=i
  ·exact Zd
  ·exact Vm
 |succ fuel ih=>
  intro listed a w hb hcl hfree hr hy H
  refine fun x hx=>⟨fun h=>(by rw [h] at hr;cases hr),fun j hj=>⟨fun e=>absurd (e▸hj) (hno listed hcl hr),fun hjE=>?_⟩⟩
  by_cases hji:j=i
  ·exact Zd
  ·have h1:=((H x hx).2 j (ready_mono hj hji)).2 hjE;open ad8 in exact aaJ):P:=h
theorem Xx(h:P:=by
 obtain⟨d0,d1,d2,d3,d4,d5,d6,d7,d8⟩:=nine FC;have f0:=ay FC 0;have f1:=ay FC 1;have f2:=ay FC 2;have f3:=ay FC 3;have f4:=ay FC 4;have f5:=ay FC 5;have f6:=ay FC 6;have f7:=ay FC 7;have f8:=ay FC 8;have hrl:=aA FC;go_simp;exact Ka122):P:=h
theorem ail.Ka122(h:P:=by
 have hkx:aC [w.heap.size+2] x (GR.setW x (w.heap.size+2) 0 [.int .i64 n.id,.int .i64 n.par,.slice A1.k n.kids.length A1.ck,.int .i64 n.next,.slice A1.p n.pu.length A1.cp,.slice A1.o n.out.length A1.co,.slice A1.s n.seen.length A1.cs,.int .i64 n.old,.slice A1.r n.reqs.length A1.cr]):=aL [.int .i64 n.id,.int .i64 n.par,.slice A1.k n.kids.length A1.ck,.int .i64 n.next,.slice A1.p n.pu.length A1.cp,.slice A1.o n.out.length A1.co,.slice A1.s n.seen.length A1.cs,.int .i64 n.old,.slice A1.r n.reqs.length A1.cr] x 0;refine⟨hkx.below (fun x hx=>by have:x=w.heap.size+2:=(by simpa using hx);omega) (by have:=aA FC;omega),?_⟩;have HK1:=hide ((aC.of_below hx).trans hkx);have HR1:=hide (GR.setW_blk [.int .i64 n.id,.int .i64 n.par,.slice A1.k n.kids.length A1.ck,.int .i64 n.next,.slice A1.p n.pu.length A1.cp,.slice A1.o n.out.length A1.co,.slice A1.s n.seen.length A1.cs,.int .i64 n.old,.slice A1.r n.reqs.length A1.cr] (o:=0) (xs:=[.int .i64 0,.int .i64 0,.slice none 0 0,.int .i64 0,.slice none 0 0,.slice none 0 0,.slice none 0 0,.int .i64 0,.slice none 0 0]) FC);clear hx hkx d0 d1 d2 d3 d4 d5 d6 d7 d8 f0 f1 f2 f3 f4 f5 f6 f7 f8 hrl FC;refine gL 10 rfl (by kernel_rfl) (by rfl) (by decide) (fun y hy=>?_);go_simp;have MK:=hide (HK1.trans (aC.of_below hy));have HR2:=hide (aj HR1 hy);clear hy HK1 HR1;refine⟨(au y _).mono (by have:=aA HR2;omega),?_⟩;refine pX (by kernel_rfl) (fun z hz=>?_);have F5:=hide (aj (aj HR2 (au y (.cells #[.int .i64 0,.int .i64 n.id,.int .i64 n.par,.int .i64 0,.int .i64 0,.string k,.int .i64 nn] 32))) hz);have eU:aC [w.heap.size+2] X z:=MK.trans ((aC.of_below (au y (.cells #[.int .i64 0,.int .i64 n.id,.int .i64 n.par,.int .i64 0,.int .i64 0,.string k,.int .i64 nn] 32))).trans (aC.of_below hz));have HMZ:=hide (aj (heap_alloc_new y (.cells #[.int .i64 0,.int .i64 n.id,.int .i64 n.par,.int .i64 0,.int .i64 0,.string k,.int .i64 nn] 32)) hz);have hmb:w.heap.size≤y.heap.size:=by have:=aA HR2;omega
 clear hz MK HR2;open ae3 in exact al7):P:=h
theorem ain.Ka122(h:P:=by
 have eU:aC [w.heap.size+2] y (GR.setW y (w.heap.size+2) 0 [.int .i64 n.id,.int .i64 n.par,.slice A1.k n.kids.length A1.ck,.int .i64 n.next,.slice A1.p n.pu.length A1.cp,.slice A1.o n.out.length A1.co,.slice A1.s n.seen.length A1.cs,.int .i64 n.old,.slice A1.r n.reqs.length A1.cr]):=aL [.int .i64 n.id,.int .i64 n.par,.slice A1.k n.kids.length A1.ck,.int .i64 n.next,.slice A1.p n.pu.length A1.cp,.slice A1.o n.out.length A1.co,.slice A1.s n.seen.length A1.cs,.int .i64 n.old,.slice A1.r n.reqs.length A1.cr] y 0;refine⟨eU.below (fun x hx=>by have:x=w.heap.size+2:=(by simpa using hx);omega) (by have:=aA FC;omega),?_⟩;clear eU d0 d1 d2 d3 d4 d5 d6 d7 d8 f0 f1 f2 f3 f4 f5 f6 f7 f8 hrl;refine pX (by kernel_rfl) (fun z hz=>?_);have F5:=hide (aj (GR.setW_blk [.int .i64 n.id,.int .i64 n.par,.slice A1.k n.kids.length A1.ck,.int .i64 n.next,.slice A1.p n.pu.length A1.cp,.slice A1.o n.out.length A1.co,.slice A1.s n.seen.length A1.cs,.int .i64 n.old,.slice A1.r n.reqs.length A1.cr] (o:=0) (xs:=[.int .i64 0,.int .i64 0,.slice none 0 0,.int .i64 0,.slice none 0 0,.slice none 0 0,.slice none 0 0,.int .i64 0,.slice none 0 0]) FC) hz);have eU:aC [w.heap.size+2] X z:=(aC.of_below HY).trans ((aL [.int .i64 n.id,.int .i64 n.par,.slice A1.k n.kids.length A1.ck,.int .i64 n.next,.slice A1.p n.pu.length A1.cp,.slice A1.o n.out.length A1.co,.slice A1.s n.seen.length A1.cs,.int .i64 n.old,.slice A1.r n.reqs.length A1.cr] y 0).trans (aC.of_below hz));have HMZ:=hide (aj ((aL [.int .i64 n.id,.int .i64 n.par,.slice A1.k n.kids.length A1.ck,.int .i64 n.next,.slice A1.p n.pu.length A1.cp,.slice A1.o n.out.length A1.co,.slice A1.s n.seen.length A1.cs,.int .i64 n.old,.slice A1.r n.reqs.length A1.cr] y 0).obj HMY (fun hm=>by have:x.heap.size=w.heap.size+2:=(by simpa using hm);omega)) hz);clear hz HY FC HMY;have hmb:w.heap.size≤x.heap.size:=by omega
 open ae4 in exact al7):P:=h
theorem Xy(h:P:=by
 obtain⟨c0,c1,c2,c3,c4,c5,c6,c7,c8⟩:=nine wK;have k0:=cell_grown' c0;have k1:=cell_grown' c1;have k2:=cell_grown' c2;have k3:=cell_grown' c3;have k4:=cell_grown' c4;have k5:=cell_grown' c5;have k6:=cell_grown' c6;have k7:=cell_grown' c7;have k8:=cell_grown' c8;have m0:=cell_grown' d0;have m1:=cell_grown' d1;have m2:=cell_grown' d2;exact Ka123):P:=h
theorem aio.Ka123(h:P:=by
 have m3:=cell_grown' d3;have en:IntKind.i64.wrap (old+1)=old+1:=IntWalk.i64_in _ ⟨by omega,by omega⟩;go_cut [151] (fun r wx=>r= .bool bb∧Below W1.heap.size W1 wx)
 case first=>
  rcases yw with⟨rfl,rfl⟩|⟨j,y,rfl,rfl,q1⟩
  ·have hgt:decide ((0:Int) < ((0:Nat):Int))=false:=rfl;open ao3 in exact Ya8
  ·have hgt:decide ((0:Int) < ((j+1:Nat):Int))=true:=decide_eq_true (by omega);have m9:=cell_grown' q1;open ao2 in exact Ya8
 case rest=>
  obtain⟨rfl,hbx⟩:=hcut;open aiM in exact LW):P:=h
theorem aip.Ka123(h:P:=by
 go_cut [64] (fun r wx=>r= .bool bb∧Below W1.heap.size W1 wx)
 case first=>
  rcases yw with⟨rfl,rfl⟩|⟨j,y,rfl,rfl,q1⟩
  ·have hgt:decide ((0:Int) < ((0:Nat):Int))=false:=rfl;open afK in exact amk
  ·have hgt:decide ((0:Int) < ((j+1:Nat):Int))=true:=decide_eq_true (by omega);have m3:=cell_grown' q1;open afJ in exact amk
 case rest=>
  obtain⟨rfl,hbx⟩:=hcut;have HW2:=hide (aj HW1 hbx);open aiL in exact LW):P:=h
theorem Xz(h:P:=by
 have hp0:w1.cell? ⟨w.heap.size,0,none⟩=some (.string pk):=by rw [cell_of_row w1 _ _ _ _ (0,0) (ah uL)];rfl
 exact Ka124):P:=h
theorem aiq.Ka124(h:P:=by
 go_upto_region 7 with fail;go_cut [51] (fun r wx=>r= .bool (found l pk)∧∃q,wx=w1.drewN q)
 case first=>
  by_cases hlt:place l pk < l.length
  ·have hf:found l pk=(l[place l pk].k.toList == pk.toList):=by
    unfold found;rw [iH,List.drop_eq_getElem_cons hlt]
   obtain⟨g1,o1,e1,hg1,s0,s1,s2,s3⟩:=aH.four (GR.At.below HA HB1) (place l pk) hlt;open ak1 in exact YA
  ·have hf:found l pk=false:=by
    unfold found;rw [iH,List.drop_eq_nil_of_le (by omega)]
   have HF:=hide hf;have hpos:decide (0 < l.length - place l pk)=false:=decide_eq_false (by omega);have aqT:l.length - place l pk=0:=by omega
   clear hf;go_quiet (fail);go_wp2_with fail;go_meet
   case rel=>exact⟨by rw [ah HF],_,rF w1 _ _⟩
 case rest=>
  obtain⟨rfl,q2,rfl⟩:=hcut;go_upto_if 51 with fail;go_cut [9] (fun r wx=>∃(ad':Addr) (cc:Nat),r= .slice (some ad') (jf l pk).length cc∧aH w1 (some ad') (jf l pk)∧∃q,wx=w1.drewN q)
  case first=>
   have HA1:=hide (GR.At.below HA HB1);cases hf:found l pk
   ·have AY:=hide (tail_not hf);have HAE:=hide hAe;clear hAe hAd;go_wp2_with fail;go_meet
    case rel=>
     refine⟨ad,cap - place l pk,by rw [ah AY,List.length_drop],?_,_,rfl⟩;rw [ah AY];by_cases hlt:place l pk < l.length
     ·rw [ah HAE hlt];exact KY HA1 (place l pk)
     ·exact K7 (List.drop_eq_nil_of_le (by omega))
   ·obtain⟨hlt,htl⟩:=tail_found hf;have AY:=hide htl;have hae:=hAe hlt;subst hae;clear htl hAe hAd
    obtain⟨ad2,arz,aqf⟩:∃ad2:Addr,(if cap - place l pk=1 then some (⟨b,off+place l pk*4,none⟩:Addr) else some ⟨b,off+place l pk*4+4,none⟩)=some ad2∧(place l pk+1 < l.length→ad2=⟨b,off+place l pk*4+4,none⟩):=by
     by_cases h:cap - place l pk=1
     ·rw [if_pos h];exact⟨_,rfl,fun h2=>by omega⟩
     ·rw [if_neg h];exact⟨_,rfl,fun _=>rfl⟩
    have hone:1≤l.length - place l pk:=by omega
    go_wp2_with fail;go_meet
    case rel=>
     refine⟨ad2,cap - place l pk - 1,by rw [ah AY,List.length_drop,Nat.sub_sub],?_,_,rfl⟩;rw [ah AY];by_cases hlt2:place l pk+1 < l.length
     ·rw [aqf hlt2];have:=KY HA1 (place l pk+1);rwa [show off+(place l pk+1)*4=off+place l pk*4+4 by omega] at this
     ·exact K7 (List.drop_eq_nil_of_le (by omega))
  case rest=>
   obtain⟨ad',cc,rfl,hta,q3,rfl⟩:=hcut;obtain⟨i0,hi,hz0,hz1,hz2⟩:=info_parts zL;obtain⟨hpf,hpn⟩:=put_flat l ⟨pk,pm,pf,ps⟩;have htl:(l.take (place l pk)).length=place l pk:=by simp;omega
   have hkt:∀q∈gV l ⟨pk,pm,pf,ps⟩,q.k.size≤maxLen:=fun q hq=>by
    rcases put_mem' hq with rfl|hq
    ·exact hpk
    ·exact hk q hq
   go_upto_region 9 with fail;refine Fo.wp_at (fun V hV=>?_);have Jv:w.heap.size < V.heap.size:=by rw [hV];exact Fo.lt_of_blk uL
   have Fu:=hide (show Below w.heap.size w V by rw [hV];exact HB1.trans ⟨rfl,rfl,rfl,Nat.le_refl _,fun _ _=>rfl⟩);have hblk:V.heap[w.heap.size]?=some (.cells #[.string pk,.int .i64 pm,.int .i64 pf,.int .i64 ps] 143 (0,0)):=by rw [hV];exact uL
   have HTA:=hide (show aH V (some ad') (jf l pk) by rw [hV];exact hta);obtain⟨⟨c0,c1,c2,c3⟩,_⟩:=eX hblk;have Lg:=hide (fun X (hb:Below V.heap.size V X)=>aH.news (GR.At.below HTA hb));have yY:=hide (fun X (hb:Below V.heap.size V X)=>EA (some ⟨b,off,none⟩) cap (l.take (place l pk)) X (by omega) (fun h=>by cases h) (GR.At.below (Uh (GR.At.below HA Fu) _) hb));have HCA:=hide (fun X (hb:Below w.heap.size w X)=>EA (some ⟨b,off,none⟩) cap l X (by omega) (fun h=>by cases h) (GR.At.below HA hb));have HPF:=hide hpf;have HPN:=hide hpn;rw [htl] at yY;have hnw:w.heap.size≠V.heap.size:=by omega
   have hmw:V.heap.size≠w.heap.size:=by omega
   have aru:(jf l pk).length≤20:=by
    have h3:=tail_len l pk;omega
   clear hV hblk hta hp0 ku uL htl hAd hAe hpf hpn
   go_region_held_law (fun w'=>w'.cell? ⟨w.heap.size,0,none⟩=some (.string pk)∧w'.cell? ⟨w.heap.size,1,none⟩=some (.int .i64 pm)∧w'.cell? ⟨w.heap.size,2,none⟩=some (.int .i64 pf)∧w'.cell? ⟨w.heap.size,3,none⟩=some (.int .i64 ps)) (go_keep)
    (first
     |((go_at_call 114);(refine(yY _ (by exact⟨rfl,rfl,rfl,by simp,fun k hk=>by first|rfl|exact Below.heap_alloc _ _ _ hk⟩)).mono ?_);(rintro e w4 ⟨vc,rfl,hv4,uZ,hb4⟩);(have hs4:=hb4.size);(try simp at hs4);(have nK:=hide (show Below V.heap.size V w4 from Below.trans (b:=_) (by exact⟨rfl,rfl,rfl,by simp,fun k hk=>by first|rfl|exact Below.heap_alloc _ _ _ hk⟩) (hb4.mono (by simp))));(have O9:=hide (own_lower (b':=V.heap.size) uZ (by simp)));(first|(guard_hyp hs4:V.heap.size+1≤w4.heap.size;have HN4:=hide (Fo.one_block (show Below (V.alloc (.cells #[.string pk,.int .i64 pm,.int .i64 pf,.int .i64 ps] 143)).heap.size (V.alloc (.cells #[.string pk,.int .i64 pm,.int .i64 pf,.int .i64 ps] 143)) w4 from⟨hb4.os,hb4.tape,hb4.output,hb4.size,hb4.block⟩)).1)|skip);(have d0:=(nK.cell (p:=⟨w.heap.size,0,none⟩) Jv).trans c0);(have d1:=(nK.cell (p:=⟨w.heap.size,1,none⟩) Jv).trans c1);(have d2:=(nK.cell (p:=⟨w.heap.size,2,none⟩) Jv).trans c2);(have d3:=(nK.cell (p:=⟨w.heap.size,3,none⟩) Jv).trans c3);(have hn4:w.heap.size≠w4.heap.size:=by omega);(have hm4:w4.heap.size≠w.heap.size:=by omega);(clear hb4 uZ hv4))
     |((guard_hyp hs4:V.heap.size+1≤w4.heap.size);(refine lI _ rfl (.tmp 57) (.tmp 59) 25 rfl V.heap.size 143 i0 (.agg #[.string ByteArray.empty,.int .i64 0,.int .i64 0,.int .i64 0]) 4 40 Tryz.underlying25 hi hz0 hz1 hz2 rfl (by decide) vc (place l pk) (GR.flat eG (l.take (place l pk))) (by simp[Act.eval]) O9 ⟨V.heap.size,0,none⟩ 1 1 (eG ⟨pk,pm,pf,ps⟩) (by simp[Act.eval]) rfl (World.news_of_block HN4) (CX ⟨pk,pm,pf,ps⟩) (by unfold maxLen;omega) (by omega) nK.size ?_);(intro v5 w5 hown5 hgr5 zD);(have CB:=hide hown5);(have HV5:=hide (show v5≠ .slice none 0 0 by first|exact zD|exact fun h=>absurd (zD.1 h).2 (by decide)));(have jJ:=hide (show Below V.heap.size V w5 from nK.trans (oV hgr5 (fun k e=>(O9.lt k e).1) nK.size)));(have e0:=(jJ.cell (p:=⟨w.heap.size,0,none⟩) Jv).trans c0);(have e1:=(jJ.cell (p:=⟨w.heap.size,1,none⟩) Jv).trans c1);(have e2:=(jJ.cell (p:=⟨w.heap.size,2,none⟩) Jv).trans c2);(have e3:=(jJ.cell (p:=⟨w.heap.size,3,none⟩) Jv).trans c3);(clear hown5 hgr5 zD))
     |((guard_hyp hs4:V.heap.size≤w4.heap.size);(refine lI _ rfl (.tmp 57) (.tmp 59) 25 rfl V.heap.size 143 i0 (.agg #[.string ByteArray.empty,.int .i64 0,.int .i64 0,.int .i64 0]) 4 40 Tryz.underlying25 hi hz0 hz1 hz2 rfl (by decide) vc (place l pk) (GR.flat eG (l.take (place l pk))) (by simp[Act.eval]) (O9.alloc _) ⟨w4.heap.size,0,none⟩ 1 1 (eG ⟨pk,pm,pf,ps⟩) (by simp[Act.eval]) rfl (World.news_of_block (heap_alloc_new w4 _)) (CX ⟨pk,pm,pf,ps⟩) (by unfold maxLen;omega) (by omega) (Nat.le_trans nK.size (by simp)) ?_);(intro v5 w5 hown5 hgr5 zD);(have CB:=hide hown5);(have HV5:=hide (show v5≠ .slice none 0 0 by first|exact zD|exact fun h=>absurd (zD.1 h).2 (by decide)));(have jJ:=hide (show Below V.heap.size V w5 from(nK.alloc nK.size _).trans (oV hgr5 (fun k e=>(O9.lt k e).1) (Nat.le_trans nK.size (by simp)))));(have e0:=(jJ.cell (p:=⟨w.heap.size,0,none⟩) Jv).trans c0);(have e1:=(jJ.cell (p:=⟨w.heap.size,1,none⟩) Jv).trans c1);(have e2:=(jJ.cell (p:=⟨w.heap.size,2,none⟩) Jv).trans c2);(have e3:=(jJ.cell (p:=⟨w.heap.size,3,none⟩) Jv).trans c3);(clear hown5 hgr5 zD))
     |((refine lI _ rfl (.tmp 60) (.tmp 61) 25 rfl V.heap.size 143 i0 (.agg #[.string ByteArray.empty,.int .i64 0,.int .i64 0,.int .i64 0]) 4 40 Tryz.underlying25 hi hz0 hz1 hz2 rfl (by decide) v5 (place l pk+1) (GR.flat eG (l.take (place l pk))++eG ⟨pk,pm,pf,ps⟩) (by simp[Act.eval,Act.put]) CB ad' (jf l pk).length cc (GR.flat eG (jf l pk)) (by simp[Act.eval,Act.put]) (GR.flat_length eG 4 aZ _) (Lg _ jJ) (uV _) (by unfold maxLen;omega) (by omega) jJ.size ?_);(intro v6 w6 hown6 lS zF);(have rW:=hide (show Below V.heap.size V w6 from jJ.trans (oV lS (fun k e=>(CB.lt k e).1) jJ.size)));(have HV6:=hide (show v6≠ .slice none 0 0 by first|exact fun h=>HV5 (zF.1 h).1|exact fun h=>HV5 (zF h).1));(rw [ah HPF,ah HPN] at hown6);(obtain⟨a6,cap6,rfl,anJ⟩:=GR.own_at aZ hown6);(have HO6:=hide hown6);(have HT6:=hide anJ);(have f0:=(rW.cell (p:=⟨w.heap.size,0,none⟩) Jv).trans c0);(have f1:=(rW.cell (p:=⟨w.heap.size,1,none⟩) Jv).trans c1);(have f2:=(rW.cell (p:=⟨w.heap.size,2,none⟩) Jv).trans c2);(have f3:=(rW.cell (p:=⟨w.heap.size,3,none⟩) Jv).trans c3);(clear hown6 lS zF anJ))
     |fail)
   all_goals
    have ZY:(gV l ⟨pk,pm,pf,ps⟩).length≤1048600:=by have:=ah HPN;omega
    have ach:=hide (Fu.trans (rW.mono (by omega)))
    have CQ:=hide (lW a6 cap6 (gV l ⟨pk,pm,pf,ps⟩) w6 ZY hkt HT6)
    clear ZY d0 d1 d2 d3 e0 e1 e2 e3 f0 f1 f2 f3 c0 c1 c2 c3 Lg yY
    go_wp2_with fail
    refine CQ.mono ?_
    rintro e w7 ⟨rfl,tJ⟩
    have Cq:=hide (ach.trans (tJ.mono ach.size))
    have HO7:=hide (own_lower (b':=w.heap.size) (HO6.kept (row:=none) ⟨tJ.os,tJ.tape,tJ.output,tJ.size,fun k hk _=>tJ.block k hk⟩ (SY _)) (by omega))
    clear tJ CQ
    cases hps:ig (gV l ⟨pk,pm,pf,ps⟩)
    ·have HWF:=hide (show nJ l ⟨pk,pm,pf,ps⟩ n=(l,false) by rw [ah HW,hps];rfl);have HCX:=hide (HCA _ Cq);clear hps HW HCA;go_wp2_with fail;refine HCX.mono ?_;rintro e w8 ⟨v8,rfl,hv8,GN,Bd⟩;have HV8:=hide hv8;have HO8:=hide (own_lower (b':=w.heap.size) GN Cq.size);have Dz:=hide (Cq.trans (Bd.mono Cq.size));clear GN Bd hv8;go_wp2_with fail;rw [ah HWF];exact bodyPost_ret (v:= .tuple #[v8,.bool false]) (by simp[results,Tryz.results173,go_sem]) rfl ⟨v8,rfl,HV8,HO8,Dz⟩
    ·have HWF:=hide (show nJ l ⟨pk,pm,pf,ps⟩ n=(gV l ⟨pk,pm,pf,ps⟩,true) by rw [ah HW,hps];rfl);clear hps HW HCA;go_wp2_with fail;rw [ah HWF];exact bodyPost_ret (v:= .tuple #[.slice a6 (gV l ⟨pk,pm,pf,ps⟩).length cap6,.bool true]) (by simp[results,Tryz.results173,go_sem]) rfl ⟨_,rfl,HV6,HO7,Cq⟩):P:=h
theorem air.Ka124(h:P:=by
 by_cases hlt:k < l.length
 ·obtain⟨g1,o1,e1,hg1,s0,s1,s2,s3⟩:=aH.four (GR.At.below HA HB1) k hlt;open ak0 in exact YA
 ·open afZ in exact DZ):P:=h
theorem LQ(h:P:=by
 have hwl:=aA h.blk;have HIO:=hide (fun w1=>Sb o w1);rw [ho] at HIO;obtain⟨K,no,k,nn,⟨mK,mF,mT,mI,mL,mk,mN⟩⟩:=o;dsimp only at *;exact Ka125):P:=h
theorem ais.Ka125(h:P:=by
 open apu in exact DX):P:=h
theorem ait.Ka125(h:P:=by
 open apv in exact DX):P:=h
theorem aiu.Ka125(h:P:=by
 open apw in exact DX):P:=h
theorem aiv.Ka125(h:P:=by
 open apy in exact DX):P:=h
theorem XA(h:P:=by
 clear HR;clear ho hk hn;go_enter Tryz.func105,Tryz.ntmps105
 go_wp2_with (first|(go_at_call_of 54 no;refine(HO _).mono ?_;rintro e w1 ⟨rfl,rfl⟩)|(go_at_call_of 131 k;refine(HK _).mono ?_;rintro e w1 ⟨rfl,rfl⟩)|(go_at_call_of 54 n;refine(HN _).mono ?_;rintro e w1 ⟨rfl,rfl⟩))
 exact Ka126):P:=h
theorem aiw.Ka126(h:P:=by
 go_region
 go_upto_region 23 with fail;open ajG in exact LY):P:=h
theorem aix.Ka126(h:P:=by
 go_ret;exact⟨aD (by rw [ah HP];simp),by first|exact iG w _ _|exact Below.setNew (iG w _ _) (by omega)⟩):P:=h
theorem Qr(h:P:=by
 obtain⟨hil,Vx⟩:=(lu n.reqs o.no).1 hf;have hgd:n.reqs.getD (dx n.reqs o.no) default=n.reqs[dx n.reqs o.no]:=by rw [List.getD_eq_getElem?_getD,List.getElem?_eq_getElem hil];rfl
 exact Ka127):P:=h
theorem aiy.Ka127(h:P:=by
 rw [hgd] at hs ⊢;open akg in exact Qz):P:=h
theorem aiz.Ka127(h:P:=by
 have hR:eP n o.no o.k o.n=(n,if Ah n.reqs[dx n.reqs o.no] o.k o.n=true then 0 else 1):=by
  unfold eP;rw [if_neg hc,if_pos hf,hgd]
 have HSQ:=hide (show Ah n.reqs[dx n.reqs o.no] o.k o.n=((n.reqs[dx n.reqs o.no].k.toList == o.k.toList)&&decide (n.reqs[dx n.reqs o.no].n=o.n)&&decide (n.reqs[dx n.reqs o.no].s=0)) by unfold Ah;rw [Bool.and_assoc,Bool.and_comm]);have HAD:=hide hR;generalize eP n o.no o.k o.n=RES at *;have hd:decide (o.no≤n.old)=false:=decide_eq_false hc;open akf in exact Qz):P:=h
theorem aiA.Ka127(h:P:=by
 rw [hgd] at hs;open ake in exact Qz):P:=h
theorem XB(h:P:=by
 rw [hL1] at Da;subst Da;clear NK J8 zC RY;refine gL 13 rfl (by kernel_rfl) (by rfl) (by decide) (fun x5 hx5=>?_);have FJ:=hide (PK.trans (hx5.mono PK.size));have GY:wc.heap.size≤x5.heap.size:=FJ.size;have Gc:=hide (GR.own_below JI hx5);have FY:=hide (aj UO hx5);clear hx5;exact Ka128):P:=h
theorem aiB.Ka128(h:P:=by
 obtain⟨v5,y5,El,Bj,yB,NW⟩:=dX aY (by omega) x5 wc.heap.size 28 28 97 i0 (.agg #[.int .i64 0,.string ByteArray.empty,.int .i64 0,.int .i64 0]) 40 Tryz.underlying28 hi hz0 hz1 hz2 rfl (.slice avO (pos+1) cvO) (pos+1) (GR.flat aK (n.reqs.take pos++[(⟨no,k,nn,1⟩:Rq)])) Gc AD (n.reqs.drop pos) (aQ - pos) (GR.At.below HDR FJ) (gI _) (by unfold maxLen;omega) (by omega) GY;open aiY in exact XI):P:=h
theorem aiC.Ka128(h:P:=by
 obtain⟨v5,y5,El,Bj,yB,NW⟩:=dX aY (by omega) x5 wc.heap.size 28 28 97 i0 (.agg #[.int .i64 0,.string ByteArray.empty,.int .i64 0,.int .i64 0]) 40 Tryz.underlying28 hi hz0 hz1 hz2 rfl (.slice avO (pos+1) cvO) (pos+1) (GR.flat aK (n.reqs.take pos++[(⟨no,k,nn,0⟩:Rq)])) Gc AD (n.reqs.drop pos) (aQ - pos) (GR.At.below HDR FJ) (gI _) (by unfold maxLen;omega) (by omega) GY;open aiX in exact XI):P:=h
theorem LV(h:P:=by
 have hlo:=h.o.lt;have jY:=hide (h.nine hB);clear h;go_enter Tryz.func40,Tryz.ntmps40
 go_upto_region 1 with fail;refine wp_at (fun W0 hW=>?_);exact Ka129):P:=h
theorem aiD.Ka129(h:P:=by
 obtain⟨e1,e2,e3⟩:=jo w (.cells (fZ n A) 30) (.cells iO 30);open aea in exact aaK):P:=h
theorem aiE.Ka129(h:P:=by
 obtain⟨e1,e2,e3⟩:=jo w (.cells (fZ n A) 30) (.cells iO 30);open akc in exact Yg):P:=h
theorem aiF.Ka129(h:P:=by
 obtain⟨e1,e2,e3⟩:=jo w (.cells (fZ n (⟨a_k,(some ⟨gp,0,none⟩),dA,dJ,fq,aI,bf,aM,aJ,aQ⟩:bE)) 30) (.cells iO 30);open aeb in exact aaK):P:=h
theorem aiG.Ka129(h:P:=by
 obtain⟨e1,e2,e3⟩:=jo w (.cells (fZ n (⟨a_k,iy,dA,dJ,fq,aI,bf,aM,aJ,aQ⟩:bE)) 30) (.cells iO 30);open aec in exact aaK):P:=h
theorem XC(h:P:=by
 have rR:Hid (Below B w Z9):=by rw [hZ];exact Uj.setCell (p:=⟨w.heap.size,5,none⟩) hB _
 have HKZ:Hid (Apart c w Z9):=by rw [hZ];exact HK9.keeps Uj.size (aC.set _) (fun y hy=>by have:y=w.heap.size:=(by simpa using hy);omega)
 clear hZ HK9 fF M7 sZ jA JH Uj c5n s0 s1 s2 s3 c5w f5w hn8 hs8 nL uN Qd hZ8;exact Ka130):P:=h
theorem aiH.Ka130(h:P:=by
 have HNV:Hid (gu ⟨n.id,n.par,n.kids,n.next+1,RL,n.out++[⟨n.next,dst,key,most⟩],n.seen,n.old,n.reqs⟩ ⟨a_k,av,a6,dJ,fq,aI,cv,c6,aJ,aQ⟩= .agg #[.int .i64 n.id,.int .i64 n.par,.slice a_k n.kids.length aI,.int .i64 (n.next+1),.slice av RL.length cv,.slice a6 (n.out.length+1) c6,.slice dJ n.seen.length aJ,.int .i64 n.old,.slice fq n.reqs.length aQ]):=by unfold Hid;simp[gu,fZ]
 have za:Hid (∀x,Ge Z9 x→Calls Tryz.prog 51 #[.agg #[.int .i64 n.id,.int .i64 n.par,.slice a_k n.kids.length aI,.int .i64 (n.next+1),.slice av RL.length cv,.slice a6 (n.out.length+1) c6,.slice dJ n.seen.length aJ,.int .i64 n.old,.slice fq n.reqs.length aQ],.agg #[.int .i64 n.next,.int .i64 dst,.string key,.int .i64 most]] x fun e w'=>e= .returned (nX PM)∧Below x.heap.size x w'):=fun x hx=>by
  have h1:=E8 ⟨n.id,n.par,n.kids,n.next+1,RL,n.out++[⟨n.next,dst,key,most⟩],n.seen,n.old,n.reqs⟩ ⟨a_k,av,a6,dJ,fq,aI,cv,c6,aJ,aQ⟩ ⟨n.next,dst,key,most⟩ x (by simp;omega) (GR.At.below (AU Z9 Z9 (aC.refl _ _) Out.refl).at.o hx)
  rw [ah Pe,ah HNV] at h1
  exact h1
 obtain⟨qK,qF,qT,qI,qL,qk,qN⟩:=PM;unfold nX at za
 have yh:Hid (∀W' mb,aC [w.heap.size+1] Z9 W'→W'.heap[mb]?=some (.cells #[.int .i64 qK,.int .i64 qF,.int .i64 qT,.int .i64 qI,.int .i64 qL,.string qk,.int .i64 qN] 32 (0,0))→w.heap.size≤mb→(∀W'',Out c w W' W''→RM W'' ⟨a_k,av,a6,dJ,fq,aI,cv,c6,aJ,aQ⟩ ⟨n.id,n.par,n.kids,n.next+1,RL,n.out++[⟨n.next,dst,key,most⟩],n.seen,n.old,n.reqs⟩)∧(∀W'',Out c w W' W''→GR.At gX 7 W'' (some ⟨mb,0,none⟩) [⟨qK,qF,qT,qI,qL,qk,qN⟩])∧Below B w W'∧Apart c w W'):=fun W' mb hk hm hmb=>by
  refine⟨fun W'' ho=>AU W' W'' hk ho,fun W'' ho i hi=>?_,rR.trans (hk.below (fun x hx=>by have:x=w.heap.size+1:=(by simpa using hx);omega) (Nat.le_trans hB rR.size)),HKZ.keeps rR.size hk (fun x hx=>by have:x=w.heap.size+1:=(by simpa using hx);omega)⟩
  obtain⟨F,hk2,hF⟩:=ho
  have hm2:=hk2.obj hm (fun hx=>by have:=(hF mb hx).1;omega)
  refine⟨mb,0,rfl,aA hm2,fun j hj=>?_⟩
  have hi0:i=0:=by simp at hi;omega
  subst hi0
  have h1:=cell_of_row W'' mb (0+(0*7+j)) _ _ (0,0) hm2
  rw [h1]
  simp[gX]
 exact Za6):P:=h
theorem aiI.Ka130(h:P:=by
 have HNV:Hid (gu ⟨n.id,n.par,n.kids,n.next+1,RL,n.out++[⟨n.next,dst,key,pf⟩],n.seen,n.old,n.reqs⟩ ⟨a_k,av,a6,dJ,fq,aI,cv,c6,aJ,aQ⟩= .agg #[.int .i64 n.id,.int .i64 n.par,.slice a_k n.kids.length aI,.int .i64 (n.next+1),.slice av RL.length cv,.slice a6 (n.out.length+1) c6,.slice dJ n.seen.length aJ,.int .i64 n.old,.slice fq n.reqs.length aQ]):=by unfold Hid;simp[gu,fZ]
 have za:Hid (∀x,Ge Z9 x→Calls Tryz.prog 51 #[.agg #[.int .i64 n.id,.int .i64 n.par,.slice a_k n.kids.length aI,.int .i64 (n.next+1),.slice av RL.length cv,.slice a6 (n.out.length+1) c6,.slice dJ n.seen.length aJ,.int .i64 n.old,.slice fq n.reqs.length aQ],.agg #[.int .i64 n.next,.int .i64 dst,.string key,.int .i64 pf]] x fun e w'=>e= .returned (nX PM)∧Below x.heap.size x w'):=fun x hx=>by
  have h1:=E8 ⟨n.id,n.par,n.kids,n.next+1,RL,n.out++[⟨n.next,dst,key,pf⟩],n.seen,n.old,n.reqs⟩ ⟨a_k,av,a6,dJ,fq,aI,cv,c6,aJ,aQ⟩ ⟨n.next,dst,key,pf⟩ x (by simp;omega) (GR.At.below (AU Z9 Z9 (aC.refl _ _) Out.refl).at.o hx)
  rw [ah Pe,ah HNV] at h1
  exact h1
 obtain⟨qK,qF,qT,qI,qL,qk,qN⟩:=PM;unfold nX at za
 have yh:Hid (∀W' mb,aC [w.heap.size+1] Z9 W'→W'.heap[mb]?=some (.cells #[.int .i64 qK,.int .i64 qF,.int .i64 qT,.int .i64 qI,.int .i64 qL,.string qk,.int .i64 qN] 32 (0,0))→w.heap.size≤mb→(∀W'',Out c w W' W''→RM W'' ⟨a_k,av,a6,dJ,fq,aI,cv,c6,aJ,aQ⟩ ⟨n.id,n.par,n.kids,n.next+1,RL,n.out++[⟨n.next,dst,key,pf⟩],n.seen,n.old,n.reqs⟩)∧(∀W'',Out c w W' W''→GR.At gX 7 W'' (some ⟨mb,0,none⟩) [⟨qK,qF,qT,qI,qL,qk,qN⟩])∧Below B w W'∧Apart c w W'):=fun W' mb hk hm hmb=>by
  refine⟨fun W'' ho=>AU W' W'' hk ho,fun W'' ho i hi=>?_,rR.trans (hk.below (fun x hx=>by have:x=w.heap.size+1:=(by simpa using hx);omega) (Nat.le_trans hB rR.size)),HKZ.keeps rR.size hk (fun x hx=>by have:x=w.heap.size+1:=(by simpa using hx);omega)⟩
  obtain⟨F,hk2,hF⟩:=ho
  have hm2:=hk2.obj hm (fun hx=>by have:=(hF mb hx).1;omega)
  refine⟨mb,0,rfl,aA hm2,fun j hj=>?_⟩
  have hi0:i=0:=by simp at hi;omega
  subst hi0
  have h1:=cell_of_row W'' mb (0+(0*7+j)) _ _ (0,0) hm2
  rw [h1]
  simp[gX]
 exact Za6):P:=h
theorem XD(h:P:=by
 have Me:=ay yA 5;obtain⟨x0,x1,x2,x3,x4,x5,x6⟩:=iq yA;go_upto_region 2 with fail;refine wp_at (fun W hW=>?_);have HXW:Hid (W.heap[w.heap.size]?=some (.cells #[.int .i64 mK,.int .i64 mF,.int .i64 mT,.int .i64 mI,.int .i64 mL,.string mk,.int .i64 mN] 32 (0,0))):=by rw [hW];exact bg yA 5 (.string mk)
 exact Ka131):P:=h
theorem aiJ.Ka131(h:P:=by
 have Pg:Hid (WS w2 W wb n A (.slice va L.length vc) L):=by rw [hW];exact TW.set hsz (fun e=>by have:=ah HV _ e;omega)
 have Ur:Hid (Below w.heap.size w W):=by rw [hW];exact((au w _).trans (hb1.mono (by simp))).trans ((aC.set (g:=w.heap.size) (i:=5) (.string mk)).below (fun x hx=>by have:x=w.heap.size:=(by simpa using hx);omega) (by have:=aA yA;omega))
 have hwW:w.heap.size < W.heap.size:=aA HXW;clear hW hb1 x0 x1 x2 x3 x4 x5 x6 Me yA TW jy HS;have hne:wb≠w.heap.size:=by omega
 have arX:wb≠W.heap.size:=by omega
 have arW:w.heap.size≠W.heap.size:=by omega
 have asb:wb < W.heap.size:=by omega
 obtain⟨x0,x1,x2,x3,x4,x5,x6⟩:=iq HXW;obtain⟨c0,c1,c2,c3,c4,c5,c6,c7,c8,c9⟩:=gY Pg.blk;clear c0 c1 c2 c3 c4 c5 c6 c7 c8;have HOW:=hide (GR.own_below Pg.own (zq W));have HSD:=hide (Pg.step (zq W))
 go_region_law
  (((refine oD _ rfl (.tmp 12) (.tmp 14) 37 rfl w2.heap.size 32 i0 (.agg #[.int .i64 0,.int .i64 0,.int .i64 0,.int .i64 0,.int .i64 0,.string ByteArray.empty,.int .i64 0]) 7 64 Tryz.underlying37 hi hz0 hz1 hz2 rfl (by decide) (.slice va L.length vc) L.length (GR.flat gX L) (by simp[Act.eval]) (HOW.alloc _) ⟨W.heap.size,0,none⟩ 1 1 (gX ⟨mK,mF,mT,mI,mL,mk,mN⟩) (by simp[Act.eval]) rfl (World.news_of_block (heap_alloc_new W.drew _)) (zu _) (by unfold maxLen;omega) (by omega) (by simp;omega) ?_);(intro v6 w6 hown6 lS zF);(obtain⟨va6,vc6,hv6,_⟩:=GR.own_at (enc:=gX) (sz:=7) (l:=L++[⟨mK,mF,mT,mI,mL,mk,mN⟩]) iR (by rw [List.length_append,fV];exact hown6));(rw [List.length_append] at hv6);(have hv7:v6= .slice va6 (L.length+1) vc6:=hv6);(subst hv7);(clear hv6);(obtain⟨hb6,ZT⟩:=ah HAP HSD hown6 lS);(have HS6:=hide ZT);(have HK6:=hide (OE (wb:=wb) (v6:= .slice va6 (L.length+1) vc6) Ur lS));(have hX6:w6.heap[w.heap.size]?=some (.cells #[.int .i64 mK,.int .i64 mF,.int .i64 mT,.int .i64 mI,.int .i64 mL,.string mk,.int .i64 mN] 32 (0,0)):=by rw [lS.block w.heap.size (by simp;omega) (fun e=>by have:=ah HV _ e.symm;omega)];first|exact aj HXW (au W _).drew|exact aj HXW (au W _));(obtain⟨y0,y1,y2,y3,y4,y5,y6⟩:=iq hX6);(obtain⟨k0,k1,k2,k3,k4,k5,k6,k7,k8,k9⟩:=gY hb6);(have kf:=ay hb6 9);(clear k0 k1 k2 k3 k4 k5 k6 k7 k8 hown6 lS zF hb6 ZT hX6)))
 all_goals
  go_wp2_with fail
  exact bodyPost_end (v:= .tuple #[]) (by simp[results,Tryz.results125,go_sem]) rfl ⟨rfl,_,HS6,HK6⟩):P:=h
theorem aiK.Ka131(h:P:=by
 have iD:Hid (Below w.heap.size w W):=by rw [hW];exact HB1.setCell (p:=⟨w.heap.size,5,none⟩) (Nat.le_refl _) _
 clear hW HB1 yA Me x0 x1 x2 x3 x4 x5 x6;have Pg:=hide (HS.step iD);have hwl:=aA HS.blk;have hne:wb≠w.heap.size:=by omega
 have hlW:=aA HXW;obtain⟨x0,x1,x2,x3,x4,x5,x6⟩:=iq HXW;obtain⟨c0,c1,c2,c3,c4,c5,c6,c7,c8,c9⟩:=gY Pg.blk;have y9:=cell_regrown c9;have z0:=cell_regrown x0;have z1:=cell_regrown x1;have z2:=cell_regrown x2;have z3:=cell_regrown x3;have z4:=cell_regrown x4;have z5:=cell_regrown x5;have z6:=cell_regrown x6;clear x0 x1 x2 x3 x4 x5 x6 c0 c1 c2 c3 c4 c5 c6 c7 c8 c9;refine jU (by kernel_rfl) ?_;show qY _ _ _ _ 11 (Array.replicate 11 false) _ _
 open akB in exact Yp):P:=h
theorem LW(h:P:=by
 have aam:=hide (aj wK hbx);have DJ:=hide (qp.trans (hbx.mono qp.size));exact Ka132):P:=h
theorem aiL.Ka132(h:P:=by
 have HI2:=hide (GR.At.below HI1 hbx);clear hbx d0 d1 d2 c0 c1 c2 c3 c4 c5 c6 c7 c8 k0 k1 k2 k3 k4 k5 k6 k7 k8 m0 m1 m2 HW1 wK qp HI1 yw HKI;cases hbv:bb
 case' true=>
  have HP:Hid (TT=false):=ah HBAD (by
   rw [ah fF]
   have h:=ah dY
   rw [hbv] at h
   unfold qz
   dsimp only
   cases h1:NN fr<;>cases h2:pv<;>cases h3:eD lo<;>cases h4:decide (ids.length≤40)<;>simp_all)
  clear HBAD fF dY
  subst hbv
  go_wp2_with fail
  go_ret
  exact⟨aD HP.symm,DJ⟩
 have HGD:Hid (fT PP RR (seen.take (k+1))=fT (wH lo) gJ ids):=by
  rw [ah fF];have h:=ah dY;rw [hbv] at h;unfold qz;dsimp only;cases h1:NN fr<;>cases h2:pv<;>cases h3:eD lo<;>cases h4:decide (ids.length≤40)<;>simp_all
 subst hbv;clear fF dY;obtain⟨d0,d1,d2⟩:=three HW2;have arP:=ah yj;go_wp2_with fail;go_loopw [6] (fun i wr2=>∃m:Nat,m≤ids.length∧i= .int .i64 m∧fT (wH lo) gJ (ids.take m)=true∧Below wc.heap.size wc wr2) (fun i _=>ids.length - (intOf i).toNat)
 case atStart=>exact QX
 case round=>
  obtain⟨m,hm,rfl,hall,hbx⟩:=hrel;have jy:=hide hbx;have ab8:=hide hall;have HW3:=hide (aj HW2 hbx);obtain⟨d0,d1,d2⟩:=three HW3;clear hall;by_cases hlm:m < ids.length
  case' neg=>
   have hke:m=ids.length:=by omega
   subst hke
   have hnlt:decide ((ids.length:Int) < (ids.length:Int))=false:=by simp
   have HF:Hid (fT PP RR (seen.take (k+1))=true):=by
    have h:=ah ab8;rw [List.take_length] at h;exact HGD.trans h
   have Uj:=hide (aj aam hbx)
   have HL9:=hide (DJ.trans (hbx.mono DJ.size))
   clear hbx
   go_wp2_with fail
   go_roundw
   case rel=>exact⟨k+1,by omega,by go_num,HF,Uj,HL9⟩
   case measure=>simp[intOf];omega
  have Wq:Hid (fT (wH lo) gJ (ids.take (m+1))=false→TT=false):=fun h=>HBAD (HGD.trans (lQ _ _ _ _ h))
  have HL9:=hide (DJ.trans (hbx.mono DJ.size));have Rm:=GR.At.below HI2 hbx;clear hbx;cases m with
  |zero=>
   obtain⟨g2,off2,rfl,hg2,q0⟩:=dK.one Rm 0 hlm
   rw [Nat.add_zero] at q0
   have hgt:decide ((0:Int) < ((0:Nat):Int))=false:=rfl
   have fF:Hid (fT (wH lo) gJ (ids.take (0+1))=wH lo ids[0]):=nS (wH lo) gJ ids hlm
   clear Rm
   generalize ids[0]=x at *
   cases h1:decide (lo≤x∧x≤1000000000)
   case' false=>
    have HV:=hide (Wq (by rw [ah fF];simp[wH,h1]))
    clear fF Wq
    go_wp2_with fail
    refine wp_region_quiet_lit (by kernel_rfl) (by kernel_rfl) ?_
    repeat (first|go_big_quiet_step ((first|(go_at_call 63;exact Ug _ _ _ _ h1 _ _)))|quiet_step ((first|(go_at_call 63;exact Ug _ _ _ _ h1 _ _))))
    refine wpQuiet_nil ?_
    intro _ hw'
    obtain⟨nq,hw''⟩:=hw'
    subst hw''
    go_wp2_with fail
    go_ret
    exact⟨aD HV.symm,HL9.trans ⟨rfl,rfl,rfl,Nat.le_refl _,fun _ _=>rfl⟩⟩
   have HV:=hide (show fT (wH lo) gJ (ids.take (0+1))=true by rw [ah fF];simp[wH,h1])
   clear fF Wq
   go_wp2_with fail
   refine wp_region_quiet_lit (by kernel_rfl) (by kernel_rfl) ?_
   repeat (first|go_big_quiet_step ((first|(go_at_call 63;exact Ug _ _ _ _ h1 _ _)))|quiet_step ((first|(go_at_call 63;exact Ug _ _ _ _ h1 _ _))))
   refine wpQuiet_nil ?_
   intro _ hw'
   obtain⟨nq,hw''⟩:=hw'
   subst hw''
   go_wp2_with fail
   go_roundw
   case rel=>exact⟨0+1,by omega,by go_num,HV,jy.trans ⟨rfl,rfl,rfl,Nat.le_refl _,fun _ _=>rfl⟩⟩
   case measure=>simp[intOf];omega
  |succ j=>
   obtain⟨g2,off2,e1,hg2,q0⟩:=dK.one Rm (j+1) hlm
   obtain⟨g3,asi,e2,hg3,q1⟩:=dK.one Rm j (by omega)
   rw [e1] at e2
   injection e2 with e2
   injection e2 with e2 e3
   subst e2 e3 e1
   have hgt:decide ((0:Int) < ((j+1:Nat):Int))=true:=decide_eq_true (by omega)
   have fF:Hid (fT (wH lo) gJ (ids.take (j+1+1))=(wH lo ids[j+1]&&gJ ids[j] ids[j+1])):=by
    have h:=qE (wH lo) gJ ids j hlm;rw [ah ab8] at h;exact h
   clear Rm
   generalize ids[j]=y at *
   generalize ids[j+1]=x at *
   cases h1:decide (lo≤x∧x≤1000000000)
   case' false=>
    have HV:=hide (Wq (by rw [ah fF];simp[wH,h1]))
    clear fF Wq
    go_wp2_with fail
    refine wp_region_quiet_lit (by kernel_rfl) (by kernel_rfl) ?_
    repeat (first|go_big_quiet_step ((first|(go_at_call 63;exact Ug _ _ _ _ h1 _ _)))|quiet_step ((first|(go_at_call 63;exact Ug _ _ _ _ h1 _ _))))
    refine wpQuiet_nil ?_
    intro _ hw'
    obtain⟨nq,hw''⟩:=hw'
    subst hw''
    go_wp2_with fail
    go_ret
    exact⟨aD HV.symm,HL9.trans ⟨rfl,rfl,rfl,Nat.le_refl _,fun _ _=>rfl⟩⟩
   by_cases h2:y < x
   case' neg=>
    have hy:decide (x≤y)=true:=decide_eq_true (by omega)
    have HV:=hide (Wq (by rw [ah fF];simp[gJ,h2]))
    clear fF Wq
    go_wp2_with fail
    refine wp_region_quiet_lit (by kernel_rfl) (by kernel_rfl) ?_
    repeat (first|go_big_quiet_step ((first|(go_at_call 63;exact Ug _ _ _ _ h1 _ _)))|quiet_step ((first|(go_at_call 63;exact Ug _ _ _ _ h1 _ _))))
    refine wpQuiet_nil ?_
    intro _ hw'
    obtain⟨nq,hw''⟩:=hw'
    subst hw''
    go_wp2_with fail
    go_ret
    exact⟨aD HV.symm,HL9.trans ⟨rfl,rfl,rfl,Nat.le_refl _,fun _ _=>rfl⟩⟩
   have hy:decide (x≤y)=false:=decide_eq_false (by omega)
   have HV:=hide (show fT (wH lo) gJ (ids.take (j+1+1))=true by rw [ah fF];simp[wH,h1,gJ,h2])
   clear fF Wq
   go_wp2_with fail
   refine wp_region_quiet_lit (by kernel_rfl) (by kernel_rfl) ?_
   repeat (first|go_big_quiet_step ((first|(go_at_call 63;exact Ug _ _ _ _ h1 _ _)))|quiet_step ((first|(go_at_call 63;exact Ug _ _ _ _ h1 _ _))))
   refine wpQuiet_nil ?_
   intro _ hw'
   obtain⟨nq,hw''⟩:=hw'
   subst hw''
   go_wp2_with fail
   go_roundw
   case rel=>exact⟨j+1+1,by omega,by go_num,HV,jy.trans ⟨rfl,rfl,rfl,Nat.le_refl _,fun _ _=>rfl⟩⟩
   case measure=>simp[intOf];omega):P:=h
theorem aiM.Ka132(h:P:=by
 clear hbx d0 d1 d2 d3 c0 c1 c2 c3 c4 c5 c6 c7 c8 k0 k1 k2 k3 k4 k5 k6 k7 k8 m0 m1 m2 m3 HW1 wK qp yw
 have wG:=hide (show fT RQ RR (reqs.take (k+1))= !bb by
  rw [ah fF,←ah dY,ah ku]
  simp only[Bool.not_not])
 cases hbv:bb
 ·have HG:Hid (fT RQ RR (reqs.take (k+1))=true):=by rw [ah wG,hbv];exact hide rfl
  exact anf
 ·exact am9):P:=h
theorem aiN.Ka132(h:P:=by
 clear hbx d0 d1 d2 d3 c0 c1 c2 c3 c4 c5 c6 c7 c8 k0 k1 k2 k3 k4 k5 k6 k7 k8 m0 m1 m2 m3 HW1 wK qp yw
 have wG:=hide (show fT OT RO (out.take (k+1))= !bb by
  rw [ah fF,←ah dY,ah ku]
  simp only[Bool.not_not])
 cases hbv:bb
 ·have HG:Hid (fT OT RO (out.take (k+1))=true):=by rw [ah wG,hbv];exact hide rfl
  exact anf
 ·exact am9):P:=h
theorem aiO.Ka132(h:P:=by
 have HW2:=hide (aj HW1 hbx);clear hbx d0 d1 d2 d3 c0 c1 c2 c3 c4 c5 c6 c7 c8 HW1 wK qp dY;obtain⟨d0,d1,d2,d3⟩:=eY HW2;cases hbv:bb
 ·have HG:=hide (show fT KB RR (out.take (k+1))=true by rw [ah wG,hbv];rfl);subst hbv;clear HBAD wG;go_wp2_with fail;go_roundw
  case rel=>exact⟨k+1,si,by omega,by go_num,rfl,yL.symm,HG,aam,DJ⟩
  case measure=>simp[intOf];omega
 ·have HP:=hide (HBAD (by rw [ah wG,hbv];rfl));subst hbv;clear HBAD wG;go_wp2_with fail;go_ret;exact⟨aD HP.symm,DJ⟩):P:=h
theorem XE(h:P:=by
 have jW:Hid (Below B w W'):=qA.trans (eU.below (fun x hx=>by have:x=w.heap.size+2:=(by simpa using hx);omega) (Nat.le_trans hB qA.size));have oJ:=hide (Apart.keeps (c:=c) HKA qA.size eU (fun x hx=>by have:x=w.heap.size+2:=(by simpa using hx);omega));obtain⟨x0,x1,x2,x3,x4,x5,x6,x7,x8⟩:=nine e4;clear hW' e4 eU;exact Ka133):P:=h
theorem aiP.Ka133(h:P:=by
 exact bodyPost_ret (v:= .tuple #[.agg #[.int .i64 N1.id,.int .i64 N1.par,.slice A1.k N1.kids.length A1.ck,.int .i64 N1.next,.slice A1.p N1.pu.length A1.cp,.slice A1.o N1.out.length A1.co,.slice A1.s N1.seen.length A1.cs,.int .i64 N1.old,.slice A1.r N1.reqs.length A1.cr],.slice ma L1.length mc,.int .i64 0]) (by simp[results,Tryz.results41,go_sem,x0,x1,x2,x3,x4,x5,x6,x7,x8]) rfl ⟨A1,ma,mc,rfl,HAT,TU,jW,oJ⟩):P:=h
theorem aiQ.Ka133(h:P:=by
 exact bodyPost_ret (v:= .tuple #[.agg #[.int .i64 n.id,.int .i64 n.par,.slice A.k n.kids.length A.ck,.int .i64 n.next,.slice A.p n.pu.length A.cp,.slice a (FL n.out.length).length cp,.slice A.s n.seen.length A.cs,.int .i64 n.old,.slice A.r n.reqs.length A.cr],.slice (some ⟨Z.heap.size,0,none⟩) 0 0,.int .i64 0]) (by simp[results,Tryz.results41,go_sem,x0,x1,x2,x3,x4,x5,x6,x7,x8]) rfl ⟨⟨A.k,A.p,a,A.s,A.r,A.ck,A.cp,cp,A.cs,A.cr⟩,some ⟨Z.heap.size,0,none⟩,0,rfl,HAT,fun W'' _ i hi=>by simp at hi,jW,oJ⟩):P:=h
theorem XF(h:P:=by
 open akN in exact QC):P:=h
theorem aiR.Ka134(h:P:=by
 exact amP):P:=h
theorem aiS.Ka134(h:P:=by
 exact amH):P:=h
theorem XG(h:P:=by
 refine fK (by kernel_rfl) ?_;show iX _ _ _ _ 23 (Array.replicate 23 false) _ _
 refine tk [0,1,2,3,4,5,6,7,8,9,10,11,12,13,14,15,16,17,18,19,20,21,22] ?_;iterate 23 (refine Pq (fun K hK=>?_);go_simp;refine hK _ ?_;clear hK K)
 refine jI ?_;refine iC (by kernel_rfl) (fun z hz=>?_);exact Ka135):P:=h
theorem aiT.Ka135(h:P:=by
 have HZ:=hide ((au w (.cells #[.int .i64 mK,.int .i64 mF,.int .i64 mT,.int .i64 mI,.int .i64 mL,.string mk,.int .i64 mN] 32)).trans (hz.mono (by simp)));clear hz y4 z3 z5 z6 x1 hlen;go_simp;go_wp2_with fail;go_ret;exact⟨rfl,HZ⟩):P:=h
theorem aiU.Ka135(h:P:=by
 have HZ:=hide (HW1.step hz);clear hz y1;go_simp;go_wp2_with fail;go_ret;exact⟨rfl,A,G,c,HZ⟩):P:=h
theorem XH(h:P:=by
 clear hge c0 c1 c2 c3 c4 c5 c6 c7 c8 p0 p1 p2 p3 p4 p5 p6 p7 p8 p9 lT hnl hol wN UJ F6 aaz nK HA4;obtain⟨c0,c1,c2,c3,c4,c5,c6,c7,c8⟩:=nine yu;obtain⟨q0,q1,q2,q3⟩:=eY M4;have hnl:=aA yu;have GQ:=aA M4;exact Ka136):P:=h
theorem aiV.Ka136(h:P:=by
 have HIQ:=hide (show nN n.reqs ⟨no,k,nn,1⟩=n.reqs.take (dx n.reqs no)++⟨no,k,nn,1⟩::n.reqs.drop (dx n.reqs no) from rfl);generalize dx n.reqs no=pos at *;obtain⟨IQ,J2⟩:∃IQ,nN n.reqs ⟨no,k,nn,1⟩=IQ:=⟨_,rfl⟩;rw [J2] at HIQ;have PO:=hide J2;clear J2;go_upto_region 16 with fail;go_cut [10] from 11 (fun i wx=>i= .int .i64 pos∧∃va vc,(∃g,va=some ⟨g,0,none⟩)∧n.reqs.length+1≤vc∧wx.heap[w.heap.size]?=some (.cells #[.int .i64 n.id,.int .i64 n.par,.slice a_k n.kids.length aI,.int .i64 n.next,.slice (some ⟨gp,0,none⟩) n.pu.length bf,.slice dA n.out.length aM,.slice dJ n.seen.length aJ,.int .i64 n.old,.slice va (n.reqs.length+1) vc] 30 (0,0))∧wx.heap[w.heap.size+2]?=some (.cells iO 30 (0,0))∧wx.heap[W1.heap.size]?=some (.cells #[.int .i64 no,.string k,.int .i64 nn,.int .i64 1] 97 (0,0))∧LO 97 aK 4 (w.heap.size+3) wx va vc IQ∧Below w.heap.size w wx)
 case first=>
  open adY in exact al1
 case rest=>
  clear c0 c1 c2 c3 c4 c5 c6 c7 c8 q0 q1 q2 q3 hnl GQ yu uM M4 jJ HA5;obtain⟨rfl,va,vc,⟨gv,rfl⟩,hvc,hN6,hR6,hQ6,hL6,hB6⟩:=hcut;open alF in exact YT):P:=h
theorem aiW.Ka136(h:P:=by
 have HIQ:=hide (show nN n.reqs ⟨no,k,nn,0⟩=n.reqs.take (dx n.reqs no)++⟨no,k,nn,0⟩::n.reqs.drop (dx n.reqs no) from rfl);generalize dx n.reqs no=pos at *;obtain⟨IQ,J2⟩:∃IQ,nN n.reqs ⟨no,k,nn,0⟩=IQ:=⟨_,rfl⟩;rw [J2] at HIQ;have PO:=hide J2;clear J2;go_upto_region 16 with fail;go_cut [10] from 11 (fun i wx=>i= .int .i64 pos∧∃va vc,(∃g,va=some ⟨g,0,none⟩)∧n.reqs.length+1≤vc∧wx.heap[w.heap.size]?=some (.cells #[.int .i64 n.id,.int .i64 n.par,.slice a_k n.kids.length aI,.int .i64 n.next,.slice av RL.length cv,.slice dA n.out.length aM,.slice dJ n.seen.length aJ,.int .i64 n.old,.slice va (n.reqs.length+1) vc] 30 (0,0))∧wx.heap[w.heap.size+2]?=some (.cells iO 30 (0,0))∧wx.heap[W1.heap.size]?=some (.cells #[.int .i64 no,.string k,.int .i64 nn,.int .i64 0] 97 (0,0))∧LO 97 aK 4 (w.heap.size+3) wx va vc IQ∧LO 143 eG 4 (w.heap.size+3) wx av cv RL∧Below w.heap.size w wx)
 case first=>
  open adX in exact al1
 case rest=>
  clear c0 c1 c2 c3 c4 c5 c6 c7 c8 q0 q1 q2 q3 hnl GQ yu uM M4 jJ HA5 FB;obtain⟨rfl,va,vc,⟨gv,rfl⟩,hvc,hN6,hR6,hQ6,hL6,hP6,hB6⟩:=hcut;open alE in exact YT):P:=h
theorem XI(h:P:=by
 rw [NH] at El Bj;refine Lib.wp_append_run x5 (.tmp 101) (.tmp 105) 28 28 rfl _ _ (by simp[Act.eval]) (by simp[Act.eval]) v5 y5 El ?_;refine⟨(Below.refl _ _).grown yB GY (fun b hb=>(Gc.lt b hb).1),?_⟩;go_simp;have MJ:=hide (FJ.grown yB GY (fun b hb=>(Gc.lt b hb).1));exact Ka137):P:=h
theorem aiX.Ka137(h:P:=by
 have Ng:Hid (y5.ownsRow wc.heap.size 97 4 v5 (pos+1+(n.reqs.length - pos)) (GR.flat aK (n.reqs.take pos++[(⟨no,k,nn,0⟩:Rq)]++n.reqs.drop pos))):=hide (by rw [GR.flat_append];exact Bj);have acH:=hide (show y5.heap[rb]?=some (.cells #[.int .i64 no,.string k,.int .i64 nn,.int .i64 0] 97 (0,0)) from by rw [yB.block _ (aA (ah FY)) (fun hm=>ah Ul _ hm.symm rfl)];exact FY);open akE in exact QB):P:=h
theorem aiY.Ka137(h:P:=by
 have Ng:Hid (y5.ownsRow wc.heap.size 97 4 v5 (pos+1+(n.reqs.length - pos)) (GR.flat aK (n.reqs.take pos++[(⟨no,k,nn,1⟩:Rq)]++n.reqs.drop pos))):=hide (by rw [GR.flat_append];exact Bj);have acH:=hide (show y5.heap[rb]?=some (.cells #[.int .i64 no,.string k,.int .i64 nn,.int .i64 1] 97 (0,0)) from by rw [yB.block _ (aA (ah FY)) (fun hm=>ah Ul _ hm.symm rfl)];exact FY);open akD in exact QB):P:=h
theorem XJ(h:P:=by
 have HS:Hid ((s.data.toList.take (k+1)).all Mth.keyByte=((s.data.toList.take k).all Mth.keyByte&&Mth.keyByte s[k])):=by rw [Mth.take_snoc s k hlt];exact Mth.all_snoc _ _
 have hc:s[k].toNat < 256:=s[k].toNat_lt;exact Ka138):P:=h
theorem aiZ.Ka138(h:P:=by
 rcases Mth.byte_cases s[k] with h|h
 ·have HK:=hide (Mth.keyByte_yes _ h);rcases h with⟨h1,h2⟩|⟨h1,h2⟩
  all_goals
   go_wp2_with (go_at_call 63;first|(refine(nW _ _ _ _ ?_ ?_).mono ?_;omega;omega;rintro e w' ⟨rfl,rfl⟩)|(refine(qO _ _ _ _ ?_).mono ?_;omega;rintro e w' ⟨rfl,rfl⟩))
   go_round
   case rel=>exact⟨k+1,by omega,by go_num,by rw [ah HS,ah HA,ah HK];rfl⟩
   case measure=>simp[intOf];omega
 ·have HK:=hide (Mth.keyByte_no _ h);have HF:Hid (Mth.keyOk s.data.toList=false):=Mth.keyOk_bad _ (k+1) (by rw [ah HS,ah HA,ah HK];rfl);rcases h with h1|⟨h1,h2⟩|h1
  all_goals
   go_wp2_with (go_at_call 63;first|(refine(nW _ _ _ _ ?_ ?_).mono ?_;omega;omega;rintro e w' ⟨rfl,rfl⟩)|(refine(qO _ _ _ _ ?_).mono ?_;omega;rintro e w' ⟨rfl,rfl⟩))
   go_ret
   exact⟨aD HF.symm,rfl⟩):P:=h
theorem ai0.Ka138(h:P:=by
 rcases Mth.byte_cases s[k] with h|h
 ·have HK:=hide (Mth.keyByte_yes _ h);rcases h with⟨h1,h2⟩|⟨h1,h2⟩
  all_goals
   go_wp2_with (first|(go_at_call 176;first|(refine(Dq _ _ ?_ ?_).mono ?_;omega;omega;rintro e w' ⟨rfl,rfl⟩)|(refine(IG _ _ ?_).mono ?_;omega;rintro e w' ⟨rfl,rfl⟩))|(go_at_call 177;first|(refine(CW _ _ ?_ ?_).mono ?_;omega;omega;rintro e w' ⟨rfl,rfl⟩)|(refine(GD _ _ ?_).mono ?_;omega;rintro e w' ⟨rfl,rfl⟩)))
   go_round
   case rel=>exact⟨k+1,by omega,by go_num,by rw [ah HS,ah HA,ah HK];rfl⟩
   case measure=>simp[intOf];omega
 ·have HK:=hide (Mth.keyByte_no _ h);have HF:Hid (Mth.keyOk s.data.toList=false):=Mth.keyOk_bad _ (k+1) (by rw [ah HS,ah HA,ah HK];rfl);rcases h with h1|⟨h1,h2⟩|h1
  all_goals
   go_wp2_with (first|(go_at_call 176;first|(refine(Dq _ _ ?_ ?_).mono ?_;omega;omega;rintro e w' ⟨rfl,rfl⟩)|(refine(IG _ _ ?_).mono ?_;omega;rintro e w' ⟨rfl,rfl⟩))|(go_at_call 177;first|(refine(CW _ _ ?_ ?_).mono ?_;omega;omega;rintro e w' ⟨rfl,rfl⟩)|(refine(GD _ _ ?_).mono ?_;omega;rintro e w' ⟨rfl,rfl⟩)))
   go_ret
   exact⟨aD HF.symm,rfl⟩):P:=h
theorem XK(h:P:=by
 have P9:=hide (aj aaA Bf);have ars:=aA aaA;have DK:=hide (show∀b,(Value.slice (some ⟨x2.heap.size,0,none⟩) 0 0).ownBlock=some b→b≠x1.heap.size from fun b hb=>by simp[Value.ownBlock] at hb;omega);have DR:=hide (qC.trans (Bf.mono qC.size));clear Bf;exact Ka139):P:=h
theorem ai1.Ka139(h:P:=by
 generalize NY:x2.alloc (.cells #[] 3)=y2 at *;open aje in exact XR):P:=h
theorem ai2.Ka139(h:P:=by
 generalize NY:x2.alloc (.cells #[] 97)=y2 at *;open aji in exact XU):P:=h
theorem XL(h:P:=by
 have Lg:Hid (NQ W6 B (bY n (n.seen.set i ⟨mF,dU s0 mL,aW s0 mL⟩)) (⟨a_k,(some ⟨gp,0,none⟩),dA,(some ⟨G.s,0,none⟩),fq,aI,bf,aM,aJ,aQ⟩:bE) ⟨G.k,G.p,G.o,G.s,G.r,ow G.i i gi⟩ (qw gi (aW s0 mL) (newC w.heap.size 9 c))):=by rw [Pp];exact JB
 exact Ka140):P:=h
theorem ai3.Ka140(h:P:=by
 open aou in exact Ya2):P:=h
theorem ai4.Ka140(h:P:=by
 open aot in exact Ya2):P:=h
theorem Qs(h:P:=by
 go_simp;have wL:=hide (HG0.trans (hx1.mono HG0.size));have RV:wc.heap.size≤x1.heap.size:=wL.size;clear hx1;refine⟨(au x1 _).mono RV,?_⟩;exact Ka141):P:=h
theorem ai5.Ka141(h:P:=by
 have uX:=au x1 (.cells #[] 97);have U9:=hide (show(x1.alloc (.cells #[] 97)).ownsRow wc.heap.size 97 4 (.slice (some ⟨x1.heap.size,0,none⟩) 0 0) 0 (GR.flat aK []) from World.ownsRow_lit (base:=wc.heap.size) (e:=97) (size:=4) x1 #[] 0 RV (by unfold maxLen;omega) (by simp));have uI:=hide (wL.trans (uX.mono wL.size));clear uX;generalize He:x1.alloc (.cells #[] 97)=y1 at *;clear He;exact Ka73):P:=h
theorem ai6.Ka141(h:P:=by
 have uX:=au x1 (.cells #[.int .i64 no,.string k,.int .i64 nn,.int .i64 1] 97);have UN:=hide (heap_alloc_new x1 (.cells #[.int .i64 no,.string k,.int .i64 nn,.int .i64 1] 97));have uI:=hide (wL.trans (uX.mono wL.size));clear uX;generalize He:x1.alloc (.cells #[.int .i64 no,.string k,.int .i64 nn,.int .i64 1] 97)=y1 at *;open ac4 in exact alU):P:=h
theorem ai7.Ka141(h:P:=by
 have uX:=au x1 (.cells #[.int .i64 no,.string k,.int .i64 nn,.int .i64 0] 97);have UN:=hide (heap_alloc_new x1 (.cells #[.int .i64 no,.string k,.int .i64 nn,.int .i64 0] 97));have uI:=hide (wL.trans (uX.mono wL.size));clear uX;generalize He:x1.alloc (.cells #[.int .i64 no,.string k,.int .i64 nn,.int .i64 0] 97)=y1 at *;open ac3 in exact alU):P:=h
theorem XM(h:P:=by
 have Uj:Hid (Below w.heap.size w W9):=by rw [J4];exact Dz.setCell (p:=⟨w.heap.size,8,none⟩) (Nat.le_refl _) _
 have HL9:Hid (LO 97 aK 4 (w.heap.size+3) W9 (some ⟨g8,0,none⟩) zn IT):=by rw [J4];exact((HL8.lower hz7).keeps (aC.set _) (fun x hx=>by simp at hx;omega))
 exact Ka142):P:=h
theorem ai8.Ka142(h:P:=by
 have HP9:Hid (LO 143 eG 4 (w.heap.size+3) W9 av cv RL):=by rw [J4];exact Pd.keeps (aC.set _) (fun x hx=>by simp at hx;omega)
 clear J4 k8 kf8 nL uN UL Dz HL8 mq kC P8 Cq aaC M7 c0 c1 c2 c3 c4 c5 c6 c7 c8 cf hnl Pd WU;have Nu:IT.length=n.reqs.length:=hIT;clear hIT;obtain⟨c0,c1,c2,c3,c4,c5,c6,c7,c8⟩:=nine sZ;open ada in exact DY):P:=h
theorem ai9.Ka142(h:P:=by
 skip
 clear J4 k8 kf8 nL uN UL Dz HL8 mq kC P8 Cq aaC M7 c0 c1 c2 c3 c4 c5 c6 c7 c8 cf hnl;have Nu:IT.length=n.reqs.length:=hIT;clear hIT;obtain⟨c0,c1,c2,c3,c4,c5,c6,c7,c8⟩:=nine sZ;open ade in exact DY):P:=h
theorem XP(h:P:=by
 obtain⟨d0,d1,d2,d3,d4,d5,d6,d7,d8⟩:=nine kC;have f0:=ay kC 0;have f1:=ay kC 1;have f2:=ay kC 2;have f3:=ay kC 3;have f4:=ay kC 4;have f5:=ay kC 5;have f6:=ay kC 6;have f7:=ay kC 7;have f8:=ay kC 8;exact Ka143):P:=h
theorem aja.Ka143(h:P:=by
 have hrl:=aA kC;go_wp2_with fail;refine aO (fun W' hW'=>?_)
 have e4:W'.heap[w.heap.size+2]?=some (.cells #[.int .i64 n.id,.int .i64 n.par,.slice A1.k n.kids.length A1.ck,.int .i64 n.next,.slice pa RL.length pc,.slice A1.o n.out.length A1.co,.slice A1.s n.seen.length A1.cs,.int .i64 n.old,.slice A1.r n.reqs.length A1.cr] 30 (0,0)):=by
  rw [hW'];exact GR.setW_blk [.int .i64 n.id,.int .i64 n.par,.slice A1.k n.kids.length A1.ck,.int .i64 n.next,.slice pa RL.length pc,.slice A1.o n.out.length A1.co,.slice A1.s n.seen.length A1.cs,.int .i64 n.old,.slice A1.r n.reqs.length A1.cr] (o:=0) (xs:=[.int .i64 0,.int .i64 0,.slice none 0 0,.int .i64 0,.slice none 0 0,.slice none 0 0,.slice none 0 0,.int .i64 0,.slice none 0 0]) kC
 have eU:aC [w.heap.size+2] Y W':=by
  rw [hW'];exact aL [.int .i64 n.id,.int .i64 n.par,.slice A1.k n.kids.length A1.ck,.int .i64 n.next,.slice pa RL.length pc,.slice A1.o n.out.length A1.co,.slice A1.s n.seen.length A1.cs,.int .i64 n.old,.slice A1.r n.reqs.length A1.cr] Y 0
 have HAT:=hide (fun W'' (ho:Dx w W' W'')=>(show RM W'' ⟨A1.k,pa,A1.o,A1.s,A1.r,A1.ck,pc,A1.co,A1.cs,A1.cr⟩ (setPu n RL) from(by
  have h:=((aoj.kc (k:=9) (KC.keeps eU (fun x hx=>by have:x=w.heap.size+2:=(by simpa using hx);rw [this];exact uF)) (by omega)).kc (k:=9) (ho.kc (fun x hx=>PE x (by omega))) (by omega))
  obtain⟨F,hk2,hF⟩:=ho
  have hpo:=(cK (cK aon eU (fun x hx=>by have:x=w.heap.size+2:=(by simpa using hx);omega)) hk2 (fun x hx=>by have:=hF x hx;omega))
  have Vz:∀g',pa.map (fun y=>y.block)=some g'→6 < newC X.heap.size 9 c g':=fun g' hg'=>by
   have h1:=pU hpo (lq hpo hg')
   rw [aT (by omega)]
   omega
  exact NQ.put h HCQ (setPu n RL) ⟨A1.k,pa,A1.o,A1.s,A1.r,A1.ck,pc,A1.co,A1.cs,A1.cr⟩ rfl rfl rfl rfl (GR.own_ati aZ hpo) (fun g' hg' _=> .inr (Vz g' hg')) h.o (fun y hy=> .inl (HCQ.co y hy)) h.r (fun y hy=> .inl (HCQ.cr y hy))
   (fun g' hg' _ h6=>⟨fun e=>by have:=HCQ.co g' e;omega,fun e=>by have:=HCQ.cr g' e;omega⟩) (fun y hy h6 e=>by have:=HCQ.co y hy;omega))))
 have jW:Hid (Below w.heap.size w W'):=Cq.trans (eU.below (fun x hx=>by have:x=w.heap.size+2:=(by simpa using hx);omega) Cq.size);obtain⟨x0,x1,x2,x3,x4,x5,x6,x7,x8⟩:=nine e4;clear hW' e4 eU;exact bodyPost_ret (v:= .tuple #[.agg #[.int .i64 n.id,.int .i64 n.par,.slice A1.k n.kids.length A1.ck,.int .i64 n.next,.slice pa RL.length pc,.slice A1.o n.out.length A1.co,.slice A1.s n.seen.length A1.cs,.int .i64 n.old,.slice A1.r n.reqs.length A1.cr],.slice (some ⟨W0.heap.size,0,none⟩) 0 0,.int .i64 0]) (by simp[results,Tryz.results9,go_sem,x0,x1,x2,x3,x4,x5,x6,x7,x8]) rfl ⟨⟨A1.k,pa,A1.o,A1.s,A1.r,A1.ck,pc,A1.co,A1.cs,A1.cr⟩,some ⟨W0.heap.size,0,none⟩,0,rfl,HAT,fun W'' _ i hi=>by simp at hi,jW⟩):P:=h
theorem ajb.Ka143(h:P:=by
 have hnl:=aA mq;have hrl:=aA kC;by_cases hm:mI < dU s0 mL
 ·have hd:decide (mI < dU s0 mL)=true:=decide_eq_true hm;go_wp2_with fail;exact amJ
 ·have hd:decide (mI < dU s0 mL)=false:=decide_eq_false hm;have hb:hasB (aW s0 mL) mI=true:=by unfold nU at hhas;rw [hd] at hhas;simpa using hhas
  rw [hb] at PN;go_wp2_with (go_at_call 124;refine(PN _ Un.at).mono ?_;rintro e wh ⟨rfl,rfl⟩)
  exact amJ):P:=h
theorem XQ(h:P:=by
 obtain⟨mK,mF,mT,mI,mL,mk,mN⟩:=m;obtain⟨R,hR⟩:∃R,bX ⟨5,no,k,n,⟨mK,mF,mT,mI,mL,mk,mN⟩⟩=R:=⟨_,rfl⟩;rw [hR];have HR:=hide hR;clear hR;have HP:=hide (show R=(decide (k.toList=[])&&decide (n=0)&&decide (no=0)&&jV ⟨mK,mF,mT,mI,mL,mk,mN⟩) by rw [←ah HR];simp[bX]);clear HR;exact Ka144):P:=h
theorem ajc.Ka144(h:P:=by
 go_enter Tryz.func105,Tryz.ntmps105
 go_upto_region 23 with fail;open ajF in exact LY):P:=h
theorem ajd.Ka144(h:P:=by
 go_enter Tryz.func36,Tryz.ntmps36
 go_wp2_with fail
 all_goals
  go_ret
  refine⟨aD ?_,au w _⟩
  rw [ah HP]
  simp[jV, *]):P:=h
theorem XR(h:P:=by
 clear NY;refine gL 4 rfl (by kernel_rfl) (by rfl) (by decide) (fun x3 hx3=>?_);have uH:=hide (DR.trans (hx3.mono DR.size));have wY:qc.heap.size≤x3.heap.size:=uH.size;have wP:=hide (GR.own_below Ba hx3);have tq:=hide (aj P9 hx3);clear hx3;exact Ka145):P:=h
theorem aje.Ka145(h:P:=by
 obtain⟨v3,y3,Ej,Ei,tK,J9⟩:=dX aN (by omega) x3 qc.heap.size 24 24 3 i0 (.int .i64 0) 8 Tryz.underlying24 hi0 hz0 hz1' hz2 rfl (.slice (some ⟨x2.heap.size,0,none⟩) 0 0) 0 (GR.flat aR ([])) wP (some ⟨gi,0,none⟩) ((aW s0 mL).take pos) Gu (GR.At.below AY uH) (nC _) (by unfold maxLen;omega) (by omega) wY;open ahm in exact amC):P:=h
theorem ajf.Ka145(h:P:=by
 obtain⟨v3,y3,Ej,Ei,tK,J9⟩:=dX aN (by omega) x3 qc.heap.size 24 24 3 i0 (.int .i64 0) 8 Tryz.underlying24 hi0 hz0 hz1' hz2 rfl (.slice (some ⟨x1.heap.size,0,none⟩) 0 0) 0 (GR.flat aR ([])) wP (some ⟨gi,0,none⟩) ((aW s0 mL).take pos) Gu (GR.At.below AY uH) (nC _) (by unfold maxLen;omega) (by omega) wY;open ahl in exact amC):P:=h
theorem XT(h:P:=by
 have h2I:¬(40:Int)≤(n.out.length:Int):=by omega
 have q2:decide ((40:Int)≤(n.out.length:Int))=false:=by simpa using h2I
 have q3:decide ((1000000000:Int)≤n.next)=false:=by simpa using h3
 obtain⟨gp,Ru⟩:=hP;subst Ru;obtain⟨i0,hi,hz0,hz1,hz2⟩:=info_parts Eu;exact Ka146):P:=h
theorem ajg.Ka146(h:P:=by
 have HPT:=hide (fun W (ha:aH W (some ⟨gp,0,none⟩) n.pu)=>Ja gp 0 bf n.pu key pf W (Nat.le_trans hz.p (by omega)) qd hz.pk hkey ha);unfold gM at HPT;rw [hu] at HPT;obtain⟨PM,wX⟩:∃PM,lG ⟨n.id,n.par,n.kids,n.next+1,RL,n.out++[⟨n.next,dst,key,pf⟩],n.seen,n.old,n.reqs⟩ ⟨n.next,dst,key,pf⟩=PM:=⟨_,rfl⟩;have Pe:=hide wX;rw [wX];clear hz qd hu wX;unfold dZ;have H9:=hide h9;clear h9;open ao6 in exact alN):P:=h
theorem ajh.Ka146(h:P:=by
 have HPT:=hide (fun W (ha:aH W (some ⟨gp,0,none⟩) n.pu)=>Ja gp 0 bf n.pu key most W (Nat.le_trans hz.p (by omega)) qd hz.pk hkey ha);unfold gM at HPT;rw [hu] at HPT;obtain⟨PM,wX⟩:∃PM,lG ⟨n.id,n.par,n.kids,n.next+1,RL,n.out++[⟨n.next,dst,key,most⟩],n.seen,n.old,n.reqs⟩ ⟨n.next,dst,key,most⟩=PM:=⟨_,rfl⟩;have Pe:=hide wX;rw [wX];clear hz qd hu wX;unfold dZ;have H9:=hide h9;clear h9;open ao7 in exact alN):P:=h
theorem XU(h:P:=by
 clear NY;refine gL 5 rfl (by kernel_rfl) (by rfl) (by decide) (fun x3 hx3=>?_);have uH:=hide (DR.trans (hx3.mono DR.size));have wY:wc.heap.size≤x3.heap.size:=uH.size;have wP:=hide (GR.own_below Ba hx3);have tq:=hide (aj P9 hx3);clear hx3;exact Ka147):P:=h
theorem aji.Ka147(h:P:=by
 obtain⟨v3,y3,Ej,Ei,tK,J9⟩:=dX aY (by omega) x3 wc.heap.size 28 28 97 i0 (.agg #[.int .i64 0,.string ByteArray.empty,.int .i64 0,.int .i64 0]) 40 Tryz.underlying28 hi hz0 hz1 hz2 rfl (.slice (some ⟨x2.heap.size,0,none⟩) 0 0) 0 (GR.flat aK ([])) wP (some ⟨gr,0,none⟩) (n.reqs.take pos) aQ (GR.At.below AY uH) (gI _) (by unfold maxLen;omega) (by omega) wY;open ahq in exact Xg):P:=h
theorem ajj.Ka147(h:P:=by
 obtain⟨v3,y3,Ej,Ei,tK,J9⟩:=dX aY (by omega) x3 wc.heap.size 28 28 97 i0 (.agg #[.int .i64 0,.string ByteArray.empty,.int .i64 0,.int .i64 0]) 40 Tryz.underlying28 hi hz0 hz1 hz2 rfl (.slice (some ⟨x1.heap.size,0,none⟩) 0 0) 0 (GR.flat aK ([])) wP (some ⟨gr,0,none⟩) (n.reqs.take pos) aQ (GR.At.below AY uH) (gI _) (by unfold maxLen;omega) (by omega) wY;open ahp in exact Xg):P:=h
theorem XV(h:P:=by
 have iJ:=hide ((hap _ (aA oH) (by rw [ah uF];omega)).trans oH);have Pw:=hide hat;have rW:=hide (Gq jy hb5 hap PE);have hrx:=aA oH;clear hat hb5 hap c0 c1 c2 c3 c4 c5 c6 c7 c8 p0 p1 p2 p3 p4 p5 p6 p7 p8 p9 lT hnl hol iN fF HOX oH wM HPR;exact Ka148):P:=h
theorem ajk.Ka148(h:P:=by
 open aii in exact Xv):P:=h
theorem ajl.Ka148(h:P:=by
 have O7:=hide (heap_alloc_new W5 (.cells #[.int .i64 N1.id,.int .i64 N1.par,.slice A2.k N1.kids.length A2.ck,.int .i64 N1.next,.slice A2.p N1.pu.length A2.cp,.slice A2.o N1.out.length A2.co,.slice A2.s N1.seen.length A2.cs,.int .i64 N1.old,.slice A2.r N1.reqs.length A2.cr] 30));have qB:=hide (aj iJ (au W5 (.cells #[.int .i64 N1.id,.int .i64 N1.par,.slice A2.k N1.kids.length A2.ck,.int .i64 N1.next,.slice A2.p N1.pu.length A2.cp,.slice A2.o N1.out.length A2.co,.slice A2.s N1.seen.length A2.cs,.int .i64 N1.old,.slice A2.r N1.reqs.length A2.cr] 30)));have qA:=hide (rW.trans ((au W5 (.cells #[.int .i64 N1.id,.int .i64 N1.par,.slice A2.k N1.kids.length A2.ck,.int .i64 N1.next,.slice A2.p N1.pu.length A2.cp,.slice A2.o N1.out.length A2.co,.slice A2.s N1.seen.length A2.cs,.int .i64 N1.old,.slice A2.r N1.reqs.length A2.cr] 30)).mono rW.size));obtain⟨c0,c1,c2,c3,c4,c5,c6,c7,c8⟩:=nine O7;have hnl:=aA O7;open adI in exact Ni):P:=h
theorem XW(h:P:=by
 refine Lib.wp_append_run x4 (.tmp 98) (.tmp 100) 28 28 rfl _ _ (by simp[Act.eval]) (by simp[Act.eval]) v4 y4 NK ?_;refine⟨(Below.refl _ _).grown zC GX (fun b hb=>(Gb.lt b hb).1),?_⟩;go_simp;have PK:=hide (PI.grown zC GX (fun b hb=>(Gb.lt b hb).1));exact Ka149):P:=h
theorem ajm.Ka149(h:P:=by
 have JI:Hid (y4.ownsRow wc.heap.size 97 4 v4 (pos+1) (GR.flat aK (n.reqs.take pos++[(⟨no,k,nn,1⟩:Rq)]))):=hide (by rw [GR.flat_append,GR.flat_one];exact J8);have UO:=hide (show y4.heap[rb]?=some (.cells #[.int .i64 no,.string k,.int .i64 nn,.int .i64 1] 97 (0,0)) from by rw [zC.block _ (aA (ah ze)) (fun hm=>ah MH _ hm.symm rfl)];exact ze);open aky in exact QA):P:=h
theorem ajn.Ka149(h:P:=by
 have JI:Hid (y4.ownsRow wc.heap.size 97 4 v4 (pos+1) (GR.flat aK (n.reqs.take pos++[(⟨no,k,nn,0⟩:Rq)]))):=hide (by rw [GR.flat_append,GR.flat_one];exact J8);have UO:=hide (show y4.heap[rb]?=some (.cells #[.int .i64 no,.string k,.int .i64 nn,.int .i64 0] 97 (0,0)) from by rw [zC.block _ (aA (ah ze)) (fun hm=>ah MH _ hm.symm rfl)];exact ze);open akx in exact QA):P:=h
theorem XY(h:P:=by
 have hblk:V.heap[wr.heap.size]?=some (.cells #[.string pk,.int .i64 pm,.int .i64 pf,.int .i64 ps] 143 (0,0)):=by rw [hV];exact heap_alloc_new wr _
 exact Ka150):P:=h
theorem ajo.Ka150(h:P:=by
 have Uf:=HP.below hbV;have M0:=hide Uf;have DC:=hide hblk;have HVS:=hide (show V.heap.size=wr.heap.size+1 by rw [hV];simp);have Fu:=hide (fD.trans (hbV.mono fD.size));obtain⟨⟨p0,p1,p2,p3⟩,_⟩:=eX hblk;obtain⟨⟨n0,n1⟩,f0,f1⟩:=jT Uf.blk
 have HRW:=hide (show V.ownsRow w.heap.size 9 1 (.slice aa k cc) k (((l.take k).map (·.k)).map Value.string) by
  have:=Uf.row
  rw [List.length_map,List.length_take,Nat.min_eq_left hk] at this
  exact this)
 have HGR:=hide (show∀w2:World,((V.alloc (.cells #[.string pk] 9)).drew).grownBy w2 (Value.slice aa k cc).ownBlock→
  w2.heap[w1.heap.size+1]?=some (.cells #[.slice aa k cc,.map (some w1.heap.size)] 306 (0,0))∧w2.heap[w1.heap.size]?=V.heap[w1.heap.size]?∧w2.heap[wr.heap.size]?=V.heap[wr.heap.size]?∧Below w.heap.size V w2 by
  intro w2 hg
  have hb:∀q,q < V.heap.size→(Value.slice aa k cc).ownBlock≠some q→w2.heap[q]?=V.heap[q]?:=fun q hq hne=>by
   rw [hg.block q (by show q < (V.alloc _).heap.size;simp;omega) (Ne.symm hne)]
   exact Below.heap_alloc V _ _ hq
  obtain⟨es,clock,hmap⟩:=Uf.map.blk
  refine⟨?_,hb _ Uf.map.lt (uh HRW hmap),hb _ (Fo.lt_of_blk hblk) (own_ne HRW hblk (by decide)),?_⟩
  ·rw [hb _ (Fo.lt_of_blk Uf.blk) (own_ne (ah HRW) Uf.blk (by decide))];exact Uf.blk
  ·refine⟨hg.os,hg.tape,hg.output,Nat.le_trans (by show V.heap.size≤(V.alloc _).heap.size;simp) hg.size,fun q hq=>hb q (by have:=Fu.size;omega) (fun e=>?_)⟩;have:=HRW.lt _ e
   omega)
 have n2:(V.alloc (.cells #[.string pk] 9)).cell? ⟨w1.heap.size+1,0,none⟩=some (.slice aa k cc):=by rw [World.cell?_alloc_lt _ _ _ (Fo.lt_of_blk Uf.blk)];exact n0
 clear hblk hbV Uf hV c0 c1 c2 c3 n1 f1;go_region_law (refine step_append_lies _ rfl (.tmp 24) (.tmp 27) 50 rfl w.heap.size 9 i0 (.string ⟨#[]⟩) 1 16 Tryz.underlying50 hi hz0 hz1 hz2 rfl (by decide) (.slice aa k cc) k (((l.take k).map (·.k)).map Value.string) (by simp[Act.eval]) (HRW.alloc _).drew ⟨V.heap.size,0,none⟩ 1 1 [.string pk] (by simp[Act.eval]) rfl (World.news_of_block (w:=(V.alloc (.cells #[.string pk] 9)).drew) (heap_alloc_new V _)) (fun u hu=>by rw [List.mem_singleton.1 hu];rfl) (by omega) (by unfold maxLen;omega) (by omega) (by have:=Fu.size;simp;omega) (V.heap.size+1) (by simp) ?_;intro g' cap' w2 hown hgrow hat hlt2;have hK2:=ah HGR w2 hgrow;have HOW:=hide hown;clear hown hgrow hat hlt2;have HM2:=hide hK2.1;have Va:=hide hK2;obtain⟨⟨y0,y1⟩,z0,z1⟩:=jT hK2.1;clear hK2 y1 z1)
 all_goals
  go_upto_region 8 with fail
  refine Fo.wp_at (fun V3 hV3=>?_)
  obtain⟨hx1,hx2,hx3,hx4⟩:=ah Va
  have arU:w1.heap.size+1 < wr.heap.size:=Fo.lt_of_blk HP.blk
  have hblk3:V3.heap[w1.heap.size+1]?=some (.cells #[.slice (some ⟨g',0,none⟩) (k+1) cap',.map (some w1.heap.size)] 306 (0,0)):=by rw [hV3];exact Fo.blk_set hx1 0 _
  have anV:V3.heap[wr.heap.size]?=some (.cells #[.string pk,.int .i64 pm,.int .i64 pf,.int .i64 ps] 143 (0,0)):=by
   rw [hV3,Fo.one_other rfl (by omega),hx3];exact DC
  have Rv:gH V3 w1.heap.size k (aF (l.take k)):=M0.map.kept (by rw [hV3,Fo.one_other rfl (by omega),hx2])
  have hrow3:V3.ownsRow w.heap.size 9 1 (.slice (some ⟨g',0,none⟩) (k+1) cap') (k+1) (((l.take k).map (·.k)).map Value.string++[.string pk]):=by
   rw [hV3];exact HOW.kept (w':=w2.setCell ⟨w1.heap.size+1,0,none⟩ _) (row:=some (w1.heap.size+1)) ⟨rfl,rfl,rfl,by rw [Fo.setCell_size];exact Nat.le_refl _,fun q _ hne=>Fo.one_other rfl (fun e=>hne (by rw [e]))⟩ (.inr (own_ne HOW hx1 (by decide)))
  have hkeys:(l.take (k+1)).map (·.k)=(l.take k).map (·.k)++[pk]:=by rw [ah Ls];simp
  have aom:=hide (show PM V3 w.heap.size (w1.heap.size+1) w1.heap.size k (.slice (some ⟨g',0,none⟩) (k+1) cap') ((l.take (k+1)).map (·.k)) (aF (l.take k)) by
   refine⟨hblk3,?_,Rv,HP.lop,HP.lom⟩
   rw [hkeys,List.map_append,List.length_append,List.length_map,List.length_take,Nat.min_eq_left hk]
   exact hrow3)
  have HB3:=hide (show Below w.heap.size w V3 by rw [hV3];exact(Fu.trans hx4).setCell (p:=⟨w1.heap.size+1,0,none⟩) HP.lop _)
  have aaw:=hide (Mh (w1.heap.size+1) w1.heap.size k _ (aF (l.take k)) ⟨pk,pm,pf,ps⟩ V3 hkk (by unfold maxLen;omega) hblk3 Rv)
  obtain⟨⟨r0,r1,r2,r3⟩,_⟩:=eX anV
  clear hx1 hx2 hx3 hx4 hblk3 anV Rv hrow3 hkeys hV3 y0 z0 n0 n2 p0 p1 p2 p3 f0
  go_wp2_with fail
  refine aaw.mono ?_
  rintro e w5 ⟨rfl,hm5,hk5⟩
  have FB:=hide (aom.turned hk5 hm5)
  have jJ:=hide (HB3.trans (xV hk5 HP.lom HB3.size))
  clear hm5 hk5 r0 r1 r2 r3
  go_wp2_with fail
  go_roundw
  case rel=>
   have h:=ah FB;rw [ah HUP] at h;exact⟨k+1,_,_,by omega,by go_num,h,jJ⟩
  case measure=>simp[intOf];omega):P:=h
theorem ajp.Ka150(h:P:=by
 have Fu:=hide (show Below w.heap.size w V by rw [hV];exact fD.alloc fD.size _);have hgV:=Fo.lt_of_blk hblk;obtain⟨⟨p0,p1,p2,p3⟩,_⟩:=eX hblk;exact Ka21):P:=h
theorem XZ(h:P:=by
 have mixed:Tryz.prog.follows .mixedOrders=true:=by kernel_rfl
 have hw1:IntKind.i64.wrap ((i:Int)+1)=(i:Int)+1:=IntWalk.i64_in _ ⟨by omega,by omega⟩;have hb1:(0:Int)≤(i:Int)+1:=by omega
 have hin:i≤l.length:=by omega
 have htn:((i:Int)+1).toNat=i+1:=by omega
 exact Ka151):P:=h
theorem ajq.Ka151(h:P:=by
 have hb2:¬(cap=i+1):=by omega
 have hb3:(i:Int)≤(l.length:Int)+1:=by omega
 have hb4:¬(cap=i):=by omega
 have hc63:cap≤9223372036854775807:=by unfold maxLen at hcm;omega
 clear hcs hcl hdl hv hblk htake hcm hr1 Rt abn hvr;go_enter Tryz.func189,Tryz.ntmps189
 go_wp2_with (simp only[hov])
 go_region_law_o (refine step_copy_runI rfl _ _ 28 28 rfl _ _ (by simp[Act.eval,Act.put]) (by simp[Act.eval,Act.put]) (hcp1 _ _ _ _ _ (by omega) (by omega)) ?_)
 go_wp2_with (at_builtin;refine wpList_copy_runI _ rfl _ _ 28 28 rfl _ _ rfl rfl (hcp2 _ _ _ (by omega)) ?_)
 go_ret;exact⟨rfl,hfin.1,hfin.2⟩):P:=h
end Go.Proofs.YtacgbldlonoaaaaGreatDoor
