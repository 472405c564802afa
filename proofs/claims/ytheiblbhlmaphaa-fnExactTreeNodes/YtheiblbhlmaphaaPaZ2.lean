/-
  Parts of proofs that stand more than once, each said once.
-/
import Derived.Test.YtheiblbhlmaphaaPaZ1
namespace Go.Proofs.Ytheiblbhlmaphaa
set_option maxRecDepth 100000
variable{P:Prop}
theorem Sa84.Ka26(h:P:=by
 have hks:=HZ.rk _ (List.getElem_mem hlt);(try dsimp only at hks)
 have HPV:Hid (∃pv:Bool,chk RQ RR (reqs.take (k+1))=(RQ reqs[k]&&pv)∧((k=0∧pv=true)∨∃(j:Nat) (y:Int),k=j+1∧pv=decide (y < (reqs[k]).no)∧wr.cell? ⟨g,off+j*4,none⟩=some (.int .i64 y))):=by
  cases k with
  |zero=>
   refine⟨true,?_,.inl ⟨rfl,rfl⟩⟩
   rw [Bool.and_true]
   exact HDF hlt
  |succ j=>
   obtain⟨g',off',e2,_,p0,_⟩:=ReqAt.four (HA.below HBL).r j (show j < reqs.length by omega)
   (try dsimp only at e2 p0)
   rw [e0] at e2
   injection e2 with e2
   injection e2 with e2 e3
   subst e2 e3
   refine⟨_,?_,.inr ⟨j,_,rfl,rfl,p0⟩⟩
   have h:=unhide HDN j hlt
   rw [unhide HALL] at h
   exact h
 subst e0;have HOK:=hide (HRQ reqs[k]);generalize reqs[k]=sk at *;generalize RQ sk=OB at *;obtain⟨si,sx,sn,st⟩:=sk;dsimp only at q0 q1 q2 q3 hks HPV HOK;obtain⟨pv,hpv,hpk⟩:=unhide HPV;have HNX:=hide hpv;have HPK:=hide hpk;obtain⟨bb,hbb⟩:∃bb,(!(decide (old+1≤si∧si≤1000000000)&&keyOk sx.data.toList&&smB sn&&decide (0≤st∧st≤2)&&pv))=bb:=⟨_,rfl⟩;have HBB:=hide hbb;clear hpv hpk HPV hbb HDF HDN HDB;go_upto_region 13 with fail;open Sa45 in exact Ya15):P:=h
theorem Ya27(h:P:=by
 refine wp_at (fun W1 hW1=>?_);have HW1:Hid (W1.heap[wr.heap.size]?=some (.cells #[.int .i64 fr,.int .i64 lo,.slice b ids.length c] 58 (0,0))):=by rw [hW1];exact heap_alloc_new _ _
 have hbw:Below wr.heap.size wr W1:=by rw [hW1];exact below_one wr _
 exact Ka27):P:=h
theorem Sa85.Ka27(h:P:=by
 have HBX1:=hide (HBX.trans (hbw.mono HBX.size));have HI1:=hide (GR.At.below HI hbw);have p1:=(hbw.cell (p:=⟨g2,off2+k,none⟩) hgw2).trans p0;have HBL1:=hide (HBL.trans (hbw.mono HBL.size));clear hW1 hbw q0 q1 q2 p0 HI;obtain⟨d0,d1,d2⟩:=three HW1;have m0:=cell_grown' d0;have m1:=cell_grown' d1;have m2:=cell_grown' d2;have m3:=cell_grown' p1;by_cases h1:fr=y
 case' neg=>
  have hb1:(fr != y)=true:=by simp[h1]
  have HP:=hide (show TT=false by rw [unhide HD,decide_eq_false (unhide HX1 h1)];rfl)
  clear h1 HST HX1 HX2
  refine wp_region_quiet_below (by kernel_rfl) (by kernel_rfl) ?_
  repeat (first|go_big_quiet_step (fail)|quiet_step (fail))
  refine wpQuiet_nil ?_
  intro _ hw'
  obtain⟨⟨dq,osq⟩,hw''⟩:=hw'
  subst hw''
  go_wp2_with fail
  go_ret
  exact⟨ret_bool HP.symm,HBL1.trans ((below_regrown _ dq osq).mono HBL1.size)⟩
 have hb1:(fr != y)=false:=by simp[h1]
 cases h2:snB ⟨fr,lo,ids⟩
 case' false=>
  have HP:=hide (show TT=false by rw [unhide HD,unhide HX2 h2];simp)
  have cS:=rSeen ⟨fr,lo,ids⟩ b c false W1 hids HI1 h2
  clear h1 HST HX1 HX2
  refine wp_region_quiet_below (by kernel_rfl) (by kernel_rfl) ?_
  repeat (first|go_big_quiet_step ((first|(go_at_call 69;exact cS _ _)))|quiet_step ((first|(go_at_call 69;exact cS _ _))))
  refine wpQuiet_nil ?_
  intro _ hw'
  obtain⟨⟨dq,osq⟩,hw''⟩:=hw'
  subst hw''
  go_wp2_with fail
  go_ret
  exact⟨ret_bool HP.symm,HBL1.trans ((below_regrown _ dq osq).mono HBL1.size)⟩
 have HG:=hide (HST h1 h2);have cS:=rSeen ⟨fr,lo,ids⟩ b c true W1 hids HI1 h2;clear h1 HST HX1 HX2;refine wp_region_quiet_below (by kernel_rfl) (by kernel_rfl) ?_;repeat (first|go_big_quiet_step ((first|(go_at_call 69;exact cS _ _)))|quiet_step ((first|(go_at_call 69;exact cS _ _))))
 refine wpQuiet_nil ?_;intro _ hw';obtain⟨⟨dq,osq⟩,hw''⟩:=hw';subst hw'';go_wp2_with fail;go_roundw
 case rel=>exact⟨k+1,by omega,by go_num,HG.1,HG.2,HBX1.trans ((below_regrown _ dq osq).mono HBX1.size)⟩
 case measure=>simp[intOf];omega):P:=h
theorem Sa86.Ka27(h:P:=by
 have HBK1:=hide (obj_step HBK hbw);have HBL1:=hide (HBL.trans (hbw.mono HBL.size));have HI1:=hide (GR.At.below HI hbw);have hgw1:=hbw.size;have HKI:=hide (GR.At.below HA HBL1)
 have HPK1:Hid ((k=0∧pv=true)∨∃(j:Nat) (y:Int),k=j+1∧pv=decide (y < fr)∧W1.cell? ⟨g,off+j*3,none⟩=some (.int .i64 y)):=by
  rcases HPK with h|⟨j,y,h1,h2,h3⟩
  ·exact .inl h
  ·exact .inr ⟨j,y,h1,h2,(hbw.cell (p:=⟨g,off+j*3,none⟩) hgw).trans h3⟩
 clear hW1 hbw q0 q1 q2 c0 c1 c2 c3 c4 c5 c6 HPK HI HBK;obtain⟨d0,d1,d2⟩:=three HW1;open Sa79 in exact Ya24):P:=h
theorem Ya28(h:P:=by
 have y0:=cell_regrown p0;have y1:=cell_regrown p1;have y2:=cell_regrown p2;have y3:=cell_regrown p3;exact Ka28):P:=h
theorem Sa87.Ka28(h:P:=by
 clear HO p0 p1 p2 p3;open Sa40 in exact Ya13):P:=h
theorem Sa88.Ka28(h:P:=by
 clear HO p0 p1 p2 p3;open Sa39 in exact Ya13):P:=h
theorem Sa89.Ka28(h:P:=by
 have y4:=cell_regrown c4;clear HO p0 p1 p2 p3 c4;open Sa41 in exact Ya13):P:=h
theorem Sa90.Ka28(h:P:=by
 have y4:=cell_regrown c4;clear HO p0 p1 p2 p3 c4;open Sa42 in exact Ya13):P:=h
theorem Ya29(h:P:=by
 have c4:V.cell? ⟨g,off+j*4,none⟩=some (.string q):=by rw [hV,World.cell?_alloc_lt _ _ _ hgw];exact d0
 have hgq:g < V.heap.size:=by rw [hV];simp;omega
 clear hblk hV c0 c1 c2 c3 d0;exact Ka29):P:=h
theorem Sa91.Ka29(h:P:=by
 open Sa81 in exact Ya25):P:=h
theorem Sa92.Ka29(h:P:=by
 open Sa68 in exact Ya22):P:=h
end Go.Proofs.Ytheiblbhlmaphaa
