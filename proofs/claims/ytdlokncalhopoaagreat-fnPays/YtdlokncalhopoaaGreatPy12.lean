/- Parts. -/
import Derived.Test.YtdlokncalhopoaaGreatPy11
import Derived.Test.YtdlokncalhopoaaGreatPy8
import Derived.Test.YtdlokncalhopoaaGreatPy7
namespace Go.Proofs.YtdlokncalhopoaaGreat
set_option maxHeartbeats 4000000
set_option maxRecDepth 100000
open Go.RowKit
open Mth
namespace Mth
theorem seen_step {l:List Sn} {F:List Int} {k:Nat} (hk:k < l.length) (hF:F.length=l.length) (h1:(l.take k).map (·.f)=F.take k) (h2:(l.take k).all snB=true) (h3:(l[k]).f=F[k]'(by omega)) (h4:snB l[k]=true):
 (l.take (k+1)).map (·.f)=F.take (k+1)∧(l.take (k+1)).all snB=true:=by
 rw [List.take_succ_eq_append_getElem hk,List.take_succ_eq_append_getElem (by omega),List.map_append,h1,List.all_append,h2]
 simp[h3,h4]
theorem seen_bad1 {l:List Sn} {F:List Int} {k:Nat} (hk:k < l.length) (hF:F.length=l.length) (h3:¬(l[k]).f=F[k]'(by omega)):¬l.map (·.f)=F:=by
 intro h
 apply h3
 subst h
 simp
theorem seen_bad2 {l:List Sn} {k:Nat} (hk:k < l.length) (h4:snB l[k]=false):l.all snB=false:=by
 rw [List.all_eq_false]
 exact⟨l[k],List.getElem_mem hk,by rw [h4];simp⟩
end Mth
theorem rSeen (s:Sn) (b:Option Addr) (c:Nat) (r:Bool) (wc:World) (hl:s.ids.length≤1048600) (ha:IntsAt wc b s.ids) (hr:snB s=r):∀d os,Calls Tryz.prog 58 #[.agg #[.int .i64 s.f,.int .i64 s.l,.slice b s.ids.length c]] (Sort.grow (redrawn wc d) os) fun e w''=>e= .returned (.bool r)∧∃p:Regrown,w''=Sort.grow (redrawn wc p.d) p.os:=fun d os=>by
 rw [←hr]
 exact Calls.regrown_of (implSeenOne s b c _ hl (GR.At.below ha (below_regrown wc d os)))
theorem implSeenOk (n:Nd) (A:Ads) (w:World) (hz:NdSz n 1048600) (hp:placeB n=true) (ha:NodeAt w A n):
 Calls Tryz.prog 35 #[ndv n A] w fun e w'=>e= .returned (.bool (toldB n))∧Below w.heap.size w w':=by
 have HA:=hide ha
 have HD:=hide (told_eq hp)
 have HSK:=hide hz.sk
 have HNB:=hide (implNeighbours n A (w.alloc (.cells (ndc n A) 30)) hz.k (GR.At.below ha.k (below_one w _)))
 have HBX:=hide (heap_alloc_new w (.cells (ndc n A) 30))
 have hls:=hz.s
 have hln:(nbrs n).length≤1048602:=by have:=hz.k;unfold nbrs;split<;>simp<;>omega
 have HLS:=hide (srt_length (nbrs n))
 generalize srt (nbrs n)=F at *
 generalize (nbrs n).length=NL at *
 generalize toldB n=TT at *
 clear ha hz hp
 obtain⟨id,par,kids,next,pu,out,seen,old,reqs⟩:=n
 obtain⟨ak,ap,ao,as',ar,ck,cp,co,cs,cr⟩:=A
 dsimp only at hls HA HD HSK HNB HBX ⊢
 go_enter Tryz.func35,Tryz.ntmps35
 go_wp2_with fail
 refine(unhide HNB).mono ?_
 rintro e w1 ⟨v,rfl,hown,hb1⟩
 have HB1:=hide ((below_one w _).trans (hb1.mono (by simp)))
 have HBK1:=hide (obj_step (unhide HBX) hb1)
 have hFL:=unhide HLS
 subst hFL
 obtain⟨fa,fc,rfl,hF⟩:=GR.own_at (enc:=encNum) (sz:=1) encNum_length hown
 have HF:=hide hF
 obtain⟨c0,c1,c2,c3,c4,c5,c6,c7,c8⟩:=nine (unhide HBK1)
 clear hown hb1 HNB HBX HLS hF
 by_cases hlen:seen.length=F.length
 case' neg=>
  have hbn:((seen.length:Int) != (F.length:Int))=true:=by simp;omega
  have HP:=hide (show TT=false by
   rw [unhide HD,decide_eq_false (show¬seen.map (·.f)=F from fun h=>hlen (by rw [←h,List.length_map]))]
   rfl)
  clear HD
  go_wp2_with fail
  go_ret
  exact⟨ret_bool (unhide HP).symm,unhide HB1⟩
 have hbn:((seen.length:Int) != (F.length:Int))=false:=by simp;omega
 have HLN:=hide hlen
 clear hlen
 go_wp2_with fail
 go_loopw [17] (fun i wr=>∃k:Nat,k≤seen.length∧i= .int .i64 k∧(seen.take k).map (·.f)=F.take k∧(seen.take k).all snB=true∧Below w1.heap.size w1 wr) (fun i _=>seen.length - (intOf i).toNat)
 case atStart=>exact⟨0,Nat.zero_le _,rfl,rfl,rfl,Below.refl _ _⟩
 case round=>
  obtain⟨k,hk,rfl,hm,hall,hbx⟩:=hrel
  have HM:=hide hm
  have HALL:=hide hall
  have HBX:=hide hbx
  have HBK:=hide (obj_step (unhide HBK1) hbx)
  have HBL:=hide ((unhide HB1).trans (hbx.mono (unhide HB1).size))
  clear hm hall hbx
  by_cases hlt:k < seen.length
  case' neg=>
   have hke:k=seen.length:=by omega
   subst hke
   have hnlt:decide ((seen.length:Int) < (seen.length:Int))=false:=by simp
   have HP:=hide (show TT=true by
    have h1:=unhide HM
    have h2:=unhide HALL
    rw [List.take_length] at h1 h2
    rw [unhide HLN,List.take_length] at h1
    rw [unhide HD,decide_eq_true h1,h2]
    rfl)
   go_wp2_with fail
   go_ret
   exact⟨ret_bool (unhide HP).symm,unhide HBL⟩
  have hltF:k < F.length:=by rw [←unhide HLN];exact hlt
  obtain⟨g,off,b,c,e0,hgw,q0,q1,q2,hI⟩:=SeenAt.below (NodeAt.s (unhide HA)) (unhide HBL) k hlt
  obtain⟨g2,off2,e2,hgw2,p0⟩:=IntsAt.one (GR.At.below (unhide HF) (unhide HBX)) k hltF
  (try dsimp only at e0 q0 q1 q2 hI)
  subst e0 e2
  have hids:=unhide HSK _ (List.getElem_mem hlt)
  have HI:=hide hI
  have HST:=hide (fun h3 h4=>seen_step hlt (unhide HLN).symm (unhide HM) (unhide HALL) h3 h4)
  have HX1:=hide (fun h3=>seen_bad1 (F:=F) hlt (unhide HLN).symm h3)
  have HX2:=hide (fun h4=>seen_bad2 hlt h4)
  clear hI
  generalize seen[k]=sk at *
  generalize F[k]=y at *
  obtain⟨fr,lo,ids⟩:=sk
  dsimp only at q0 q1 q2 HI hids HST HX1 HX2
  go_upto_region 7 with fail
  refine wp_at (fun W1 hW1=>?_)
  have HW1:Hid (W1.heap[wr.heap.size]?=some (.cells #[.int .i64 fr,.int .i64 lo,.slice b ids.length c] 71 (0,0))):=by rw [hW1];exact heap_alloc_new _ _
  have hbw:Below wr.heap.size wr W1:=by rw [hW1];exact below_one wr _
  have HBX1:=hide ((unhide HBX).trans (hbw.mono (unhide HBX).size))
  have HI1:=hide (GR.At.below (unhide HI) hbw)
  have p1:=(hbw.cell (p:=⟨g2,off2+k,none⟩) hgw2).trans p0
  have HBL1:=hide ((unhide HBL).trans (hbw.mono (unhide HBL).size))
  clear hW1 hbw q0 q1 q2 p0 HI
  obtain⟨d0,d1,d2⟩:=three (unhide HW1)
  have m0:=cell_grown' d0
  have m1:=cell_grown' d1
  have m2:=cell_grown' d2
  have m3:=cell_grown' p1
  by_cases h1:fr=y
  case' neg=>
   have hb1:(fr != y)=true:=by simp[h1]
   have HP:=hide (show TT=false by rw [unhide HD,decide_eq_false (unhide HX1 h1)];rfl)
   clear h1 HST HX1 HX2
   refine wp_region_quiet_below (by kernel_rfl) (by kernel_rfl) ?_
   repeat (first|go_big_quiet_step (fail)|quiet_step (fail))
   refine wpQuiet_nil ?_
   intro _ hw'
   obtain⟨⟨dq,osq⟩,hw''⟩:=hw'
   subst hw''
   go_wp2_with fail
   go_ret
   exact⟨ret_bool (unhide HP).symm,(unhide HBL1).trans ((below_regrown _ dq osq).mono (unhide HBL1).size)⟩
  have hb1:(fr != y)=false:=by simp[h1]
  cases h2:snB ⟨fr,lo,ids⟩
  case' false=>
   have HP:=hide (show TT=false by rw [unhide HD,unhide HX2 h2];simp)
   have cS:=rSeen ⟨fr,lo,ids⟩ b c false W1 hids (unhide HI1) h2
   clear h1 HST HX1 HX2
   refine wp_region_quiet_below (by kernel_rfl) (by kernel_rfl) ?_
   repeat (first|go_big_quiet_step ((first|(go_at_call 58;exact cS _ _)))|quiet_step ((first|(go_at_call 58;exact cS _ _))))
   refine wpQuiet_nil ?_
   intro _ hw'
   obtain⟨⟨dq,osq⟩,hw''⟩:=hw'
   subst hw''
   go_wp2_with fail
   go_ret
   exact⟨ret_bool (unhide HP).symm,(unhide HBL1).trans ((below_regrown _ dq osq).mono (unhide HBL1).size)⟩
  have HG:=hide (unhide HST h1 h2)
  have cS:=rSeen ⟨fr,lo,ids⟩ b c true W1 hids (unhide HI1) h2
  clear h1 HST HX1 HX2
  refine wp_region_quiet_below (by kernel_rfl) (by kernel_rfl) ?_
  repeat (first|go_big_quiet_step ((first|(go_at_call 58;exact cS _ _)))|quiet_step ((first|(go_at_call 58;exact cS _ _))))
  refine wpQuiet_nil ?_
  intro _ hw'
  obtain⟨⟨dq,osq⟩,hw''⟩:=hw'
  subst hw''
  go_wp2_with fail
  go_roundw
  case rel=>exact⟨k+1,by omega,by go_num,(unhide HG).1,(unhide HG).2,(unhide HBX1).trans ((below_regrown _ dq osq).mono (unhide HBX1).size)⟩
  case measure=>simp[intOf];omega
theorem implNodeOk (n:Nd) (A:Ads) (w:World) (hz:NdSz n 1048600) (ha:NodeAt w A n):
 Calls Tryz.prog 13 #[ndv n A] w fun e w'=>e= .returned (.bool (ndOk n))∧Below w.heap.size w w':=by
 have HPL:Hid (∀w1,Below w.heap.size w w1→Calls Tryz.prog 31 #[ndv n A] w1 fun e w'=>e= .returned (.bool (placeB n))∧Below w1.heap.size w1 w'):=fun w1 hb=>by
  have h:=implPlaced n A w1 hz.k (ha.below hb).k
  rw [place_same] at h
  exact h
 have HPU:=hide (fun w1 (hb:Below w.heap.size w w1)=>implPursesOk A.p A.cp n.pu w1 hz.p (ha.below hb).p)
 have HOT:=hide (fun w1 (hb:Below w.heap.size w w1) (hp:placeB n=true)=>implOutOk n A w1 hz hp (ha.below hb))
 have HSE:=hide (fun w1 (hb:Below w.heap.size w w1) (hp:placeB n=true)=>implSeenOk n A w1 hz hp (ha.below hb))
 have HRE:=hide (fun w1 (hb:Below w.heap.size w w1)=>implReqsOk n A w1 hz (ha.below hb))
 have HD:Hid (ndOk n=(placeB n&&psOk n.pu&&toldB n&&smB n.next&&outsB n&&reqsB n)):=rfl
 have HBX:=hide (heap_alloc_new w (.cells (ndc n A) 30))
 generalize placeB n=PL at *
 generalize psOk n.pu=PS at *
 generalize toldB n=TD at *
 generalize outsB n=OT at *
 generalize reqsB n=RQ at *
 generalize ndOk n=TT at *
 clear ha hz
 obtain⟨id,par,kids,next,pu,out,seen,old,reqs⟩:=n
 obtain⟨ak,ap,ao,as',ar,ck,cp,co,cs,cr⟩:=A
 dsimp only at HPL HPU HOT HSE HRE HD HBX ⊢
 go_enter Tryz.func13,Tryz.ntmps13
 go_upto_region 1 with fail
 refine wp_at (fun W0 hW0=>?_)
 have HB0:Hid (W0.heap[w.heap.size]?=some (.cells (ndc ⟨id,par,kids,next,pu,out,seen,old,reqs⟩ ⟨ak,ap,ao,as',ar,ck,cp,co,cs,cr⟩) 30 (0,0))):=by rw [hW0];exact unhide HBX
 have HL0:Hid (Below w.heap.size w W0):=by rw [hW0];exact below_one w _
 clear hW0 HBX
 obtain⟨c0,c1,c2,c3,c4,c5,c6,c7,c8⟩:=nine (unhide HB0)
 go_wp2_with fail
 refine(unhide HPL _ (unhide HL0)).mono ?_
 rintro e w1 ⟨rfl,hb1⟩
 have HB1:=hide (obj_step (unhide HB0) hb1)
 have HL1:=hide ((unhide HL0).trans (hb1.mono (unhide HL0).size))
 clear hb1 c0 c1 c2 c3 c4 c5 c6 c7 c8
 obtain⟨c0,c1,c2,c3,c4,c5,c6,c7,c8⟩:=nine (unhide HB1)
 cases h1:PL
 case' false=>
  have HP:=hide (show TT=false by rw [unhide HD];simp[h1])
  clear h1 HD
  go_wp2_with fail
  go_ret
  exact⟨ret_bool (unhide HP).symm,unhide HL1⟩
 go_wp2_with fail
 refine(unhide HPU _ (unhide HL1)).mono ?_
 rintro e w2 ⟨rfl,hb1⟩
 have HB2:=hide (obj_step (unhide HB1) hb1)
 have HL2:=hide ((unhide HL1).trans (hb1.mono (unhide HL1).size))
 clear hb1 c0 c1 c2 c3 c4 c5 c6 c7 c8
 obtain⟨c0,c1,c2,c3,c4,c5,c6,c7,c8⟩:=nine (unhide HB2)
 cases h2:PS
 case' false=>
  have HP:=hide (show TT=false by rw [unhide HD];simp[h2])
  clear h2 HD
  go_wp2_with fail
  go_ret
  exact⟨ret_bool (unhide HP).symm,unhide HL2⟩
 cases h3:smB next
 case' false=>
  have HP:=hide (show TT=false by rw [unhide HD];simp[h3])
  have H3:=hide (fun w1=>isSomeAmount next false w1 h3)
  clear h3 HD
  go_wp2_with (go_at_call 33;refine(unhide H3 _).mono ?_;rintro e w9 ⟨rfl,rfl⟩)
  go_ret
  exact⟨ret_bool (unhide HP).symm,unhide HL2⟩
 have H3:=hide (fun w1=>isSomeAmount next true w1 h3)
 go_wp2_with (go_at_call 33;refine(unhide H3 _).mono ?_;rintro e w9 ⟨rfl,rfl⟩)
 refine(unhide HOT _ (unhide HL2) h1).mono ?_
 rintro e w3 ⟨rfl,hb1⟩
 have HB3:=hide (obj_step (unhide HB2) hb1)
 have HL3:=hide ((unhide HL2).trans (hb1.mono (unhide HL2).size))
 clear hb1 c0 c1 c2 c3 c4 c5 c6 c7 c8
 obtain⟨c0,c1,c2,c3,c4,c5,c6,c7,c8⟩:=nine (unhide HB3)
 cases h4:OT
 case' false=>
  have HP:=hide (show TT=false by rw [unhide HD];simp[h4])
  clear h4 HD
  go_wp2_with fail
  go_ret
  exact⟨ret_bool (unhide HP).symm,unhide HL3⟩
 go_wp2_with fail
 refine(unhide HSE _ (unhide HL3) h1).mono ?_
 rintro e w4 ⟨rfl,hb1⟩
 have HB4:=hide (obj_step (unhide HB3) hb1)
 have HL4:=hide ((unhide HL3).trans (hb1.mono (unhide HL3).size))
 clear hb1 c0 c1 c2 c3 c4 c5 c6 c7 c8
 obtain⟨c0,c1,c2,c3,c4,c5,c6,c7,c8⟩:=nine (unhide HB4)
 cases h5:TD
 case' false=>
  have HP:=hide (show TT=false by rw [unhide HD];simp[h5])
  clear h5 HD
  go_wp2_with fail
  go_ret
  exact⟨ret_bool (unhide HP).symm,unhide HL4⟩
 go_wp2_with fail
 refine(unhide HRE _ (unhide HL4)).mono ?_
 rintro e w5 ⟨rfl,hb1⟩
 have HB5:=hide (obj_step (unhide HB4) hb1)
 have HL5:=hide ((unhide HL4).trans (hb1.mono (unhide HL4).size))
 clear hb1 c0 c1 c2 c3 c4 c5 c6 c7 c8
 obtain⟨c0,c1,c2,c3,c4,c5,c6,c7,c8⟩:=nine (unhide HB5)
 have HP:=hide (show TT=RQ by rw [unhide HD];simp[h1,h2,h3,h4,h5])
 clear h1 h2 h3 h4 h5 HD
 go_wp2_with fail
 go_ret
 exact⟨ret_bool (unhide HP).symm,unhide HL5⟩

/-- An operation. -/
abbrev opv (K no : Int) (k : ByteArray) (nn : Int) (m : Mg) : Value := .agg #[.int .i64 K, .int .i64 no, .string k, .int .i64 nn, .int .i64 m.K, .int .i64 m.F, .int .i64 m.T, .int .i64 m.I, .int .i64 m.L, .string m.k, .int .i64 m.N]
set_option maxRecDepth 100000 in
set_option maxHeartbeats 4000000 in
theorem implTick (w0 w2 : World) (wb : Nat) (n : Nd) (A : Ads) (K no : Int) (key : ByteArray) (nn : Int) (om : Mg) (hsz : NdSz n 1048600) (ha : SentAt w0 A.o n.out) (hb : Below w0.heap.size w0 w2) (hw : w0.heap.size ≤ wb) (h : WS w2 w2 wb n A (.slice none 0 0) []) :
    Calls Tryz.prog 14 #[.pointer (some ⟨wb, 0, none⟩), opv K no key nn om] w2 fun e w' => e = .returned (.int .i64 0) ∧ ∃ v', WS w2 w' wb n A v' (n.out.map (payM n)) := by
  have HPY := hide (fun s W (hb1 : Below w0.heap.size w0 W) w1 (h1 : w1.heap = W.heap) => implPayOf n A s w1 hsz.o (GR.At.heap (GR.At.below ha hb1) h1))
  have HBW : Hid (∀ {wr v L}, WS w2 wr wb n A v L → Below w0.heap.size w0 wr) := fun h1 => hb.trans (h1.keep.below (fun x hx => by have : x = wb := (by simpa using hx); omega) hb.size)
  have HSY := hide (fun w v L m h1 h2 h3 => implSay w2 w wb n A v L m h1 h2 h3)
  have HKK : Hid (∀ s ∈ n.out, (payM n s).k.size ≤ 1048600) := fun s hs => hsz.ok s hs
  have HAO := hide ha
  have HB2 := hide hb
  have HS := hide h
  have hlo := hsz.o
  have hwb := h.lt
  clear ha hsz hb h
  generalize payM n = PM at *
  obtain ⟨om0, om1, om2, om3, om4, om5, om6⟩ := om
  obtain ⟨id, par, kids, next, pu, out, seen, old, reqs⟩ := n
  obtain ⟨ak, ap, ao, as', ar, ck, cp, co, cs, cr⟩ := A
  dsimp only at hlo HAO HPY HKK ⊢
  obtain ⟨c0, c1, c2, c3, c4, c5, c6, c7, c8, c9⟩ := tenC (unhide HS).blk
  go_enter Tryz.func14, Tryz.ntmps14
  go_wp2_with fail
  go_loopw [13] (fun i wr => ∃ (k : Nat) (v : Value), k ≤ out.length ∧ i = .int .i64 k ∧ WS w2 wr wb ⟨id, par, kids, next, pu, out, seen, old, reqs⟩ ⟨ak, ap, ao, as', ar, ck, cp, co, cs, cr⟩ v ((out.take k).map PM)) (fun i _ => out.length - (intOf i).toNat)
  case atStart => exact ⟨0, .slice none 0 0, Nat.zero_le _, rfl, (unhide HS).step (below_one w2 _)⟩
  case round =>
    obtain ⟨k, v, hk, rfl, hS⟩ := hrel
    have HS1 := hide hS
    have hsw := hS.keep.size
    clear hS c0 c1 c2 c3 c4 c5 c6 c7 c8 c9
    by_cases hlt : k < out.length
    · obtain ⟨g, off, e0, hg, q0, q1, q2, q3⟩ := SentAt.four (GR.At.below (unhide HAO) (unhide HBW (unhide HS1))) k hlt
      have HKk := hide (unhide HKK out[k] (List.getElem_mem hlt))
      have HPYk := hide (unhide HPY out[k])
      have HT := hide (show (out.take (k + 1)).map PM = (out.take k).map PM ++ [PM out[k]] by rw [List.take_succ_eq_append_getElem hlt, List.map_append]; rfl)
      have HVL : Hid (∀ x, v.ownBlock = some x → x < wr.heap.size) := fun x e => ((unhide HS1).own.lt x e).2
      have hln : ((out.take k).map PM).length ≤ 2097200 := by rw [List.length_map, List.length_take]; omega
      generalize out[k] = sk at *
      generalize PM sk = mk at *
      obtain ⟨si, st, sx, sn⟩ := sk
      obtain ⟨mK, mF, mT, mI, mL, mk, mN⟩ := mk
      dsimp only at q0 q1 q2 q3 HKk
      subst e0
      have hgw : g < wr.heap.size := by omega
      go_upto_region 4 with fail
      refine wp_at (fun W3 hW3 => ?_)
      have hbw : Below wr.heap.size wr W3 := by rw [hW3]; exact below_one wr _
      have HR3 : Hid (W3.heap[wr.heap.size]? = some (.cells #[.int .i64 si, .int .i64 st, .string sx, .int .i64 sn] 40 (0, 0))) := by rw [hW3]; exact heap_alloc_new _ _
      have HS3 := hide ((unhide HS1).step hbw)
      have HPY3 := hide (unhide HPYk W3 (unhide HBW (unhide HS3)))
      clear hW3 hbw q0 q1 q2 q3
      have hr3 : wr.heap.size < W3.heap.size := obj_lt (unhide HR3)
      have hne : wb ≠ wr.heap.size := by omega
      obtain ⟨c0, c1, c2, c3, c4, c5, c6, c7, c8, c9⟩ := tenC (unhide HS3).blk
      obtain ⟨d0, d1, d2, d3⟩ := fourC (unhide HR3)
      clear c9
      go_region_held (fun w' => (w'.cell? ⟨wb, 0, none⟩ = some (.int .i64 id) ∧ w'.cell? ⟨wb, 1, none⟩ = some (.int .i64 par) ∧ w'.cell? ⟨wb, 2, none⟩ = some (.slice ak kids.length ck) ∧ w'.cell? ⟨wb, 3, none⟩ = some (.int .i64 next) ∧ w'.cell? ⟨wb, 4, none⟩ = some (.slice ap pu.length cp) ∧ w'.cell? ⟨wb, 5, none⟩ = some (.slice (some ⟨g, off, none⟩) out.length co) ∧ w'.cell? ⟨wb, 6, none⟩ = some (.slice as' seen.length cs) ∧ w'.cell? ⟨wb, 7, none⟩ = some (.int .i64 old) ∧ w'.cell? ⟨wb, 8, none⟩ = some (.slice ar reqs.length cr)) ∧ w'.cell? ⟨wr.heap.size, 0, none⟩ = some (.int .i64 si) ∧ w'.cell? ⟨wr.heap.size, 1, none⟩ = some (.int .i64 st) ∧ w'.cell? ⟨wr.heap.size, 2, none⟩ = some (.string sx) ∧ w'.cell? ⟨wr.heap.size, 3, none⟩ = some (.int .i64 sn)) (go_keep)
        (first
          | (go_at_call 38; refine (unhide HPY3 W3.drew rfl).mono ?_; rintro e w5 ⟨rfl, hb5⟩; have hb6 : Below W3.heap.size W3 w5 := ⟨hb5.os, hb5.tape, hb5.output, hb5.size, hb5.block⟩; clear hb5; have HS5 := hide ((unhide HS3).step hb6); have HR5 := hide (obj_step (unhide HR3) hb6); clear hb6; obtain ⟨y0, y1, y2, y3, y4, y5, y6, y7, y8, y9⟩ := tenC (unhide HS5).blk; obtain ⟨z0, z1, z2, z3⟩ := fourC (unhide HR5); clear y9)
          | (go_at_call 37; refine (unhide HSY _ v _ ⟨mK, mF, mT, mI, mL, mk, mN⟩ (unhide HKk) hln (unhide HS5)).mono ?_; rintro e w6 ⟨rfl, v6, hS6, hK6⟩; have HS6 := hide hS6; have HR6 := hide (hK6.obj (unhide HR5) (fun hx => by (rcases List.mem_cons.1 hx with h | h); (exact absurd h (Ne.symm hne)); (have := unhide HVL wr.heap.size (by simpa using h); omega))); clear hS6 hK6; obtain ⟨u0, u1, u2, u3, u4, u5, u6, u7, u8, u9⟩ := tenC (unhide HS6).blk; obtain ⟨t0, t1, t2, t3⟩ := fourC (unhide HR6); clear u9))
      all_goals
        go_wp2_with fail
        go_roundw
        case rel => exact ⟨k + 1, v6, by omega, by go_num, by rw [unhide HT]; exact unhide HS6⟩
        case measure => simp [intOf]; omega
    · have hke : k = out.length := by omega
      subst hke
      have hnlt : decide ((out.length : Int) < (out.length : Int)) = false := by simp
      go_wp2_with fail
      go_ret
      have hS := unhide HS1
      rw [List.take_length] at hS
      exact ⟨rfl, v, hS⟩

set_option maxRecDepth 100000 in
set_option maxHeartbeats 4000000 in
theorem implPays (n : Nd) (A : Ads) (w : World) (hsz : NdSz n 1048600) (ha : NodeAt w A n) :
    Calls Tryz.prog 6 #[ndv n A] w (GivesM w (paysL n)) := by
  have HOK := hide (fun W (hb : Below w.heap.size w W) => implNodeOk n A W hsz (ha.below hb))
  obtain ⟨L, hL⟩ : ∃ L, paysL n = L := ⟨_, rfl⟩
  have HPL : Hid (L = if ndOk n then n.out.map (payM n) else []) := hL.symm
  have HPB := hide (heap_alloc_new w (.cells (ndc n A) 30))
  have HTK := hide (fun w2 wb K no k nn m hb hw h => implTick w w2 wb n A K no k nn m hsz ha.o hb hw h)
  rw [hL]
  clear hL ha hsz
  generalize ndOk n = OK at *
  generalize payM n = PM at *
  obtain ⟨id, par, kids, next, pu, out, seen, old, reqs⟩ := n
  obtain ⟨ak, ap, ao, as', ar, ck, cp, co, cs, cr⟩ := A
  dsimp only at HPL
  go_enter Tryz.func6, Tryz.ntmps6
  go_wp2_with fail
  refine (unhide HOK _ (below_one w _)).mono ?_
  rintro e w1 ⟨rfl, hb1⟩
  have HB1 := hide ((below_one w _).trans (hb1.mono (by simp)))
  have HP1 := hide (obj_step (unhide HPB) hb1)
  clear hb1 HPB HOK
  cases hOK : OK
  · have HE : Hid (L = []) := by rw [unhide HPL, hOK]; rfl
    clear hOK HPL
    go_wp2_with fail
    go_ret
    rw [unhide HE]
    exact ⟨none, 0, rfl, 0, GR.W.nil, fun x hx => by simp [fp] at hx, unhide HB1⟩
  · have HE : Hid (L = out.map PM) := by rw [unhide HPL, hOK]; rfl
    clear hOK HPL
    obtain ⟨c0, c1, c2, c3, c4, c5, c6, c7, c8⟩ := nine (unhide HP1)
    go_upto_region 4 with fail
    refine wp_at (fun W2 hW2 => ?_)
    have hbw : Below w1.heap.size w1 W2 := by rw [hW2]; exact below_one w1 _
    have HS2 : Hid (WS W2 W2 w1.heap.size ⟨id, par, kids, next, pu, out, seen, old, reqs⟩ ⟨ak, ap, ao, as', ar, ck, cp, co, cs, cr⟩ (.slice none 0 0) []) := by
      have hblk : W2.heap[w1.heap.size]? = some (.cells (wkc ⟨id, par, kids, next, pu, out, seen, old, reqs⟩ ⟨ak, ap, ao, as', ar, ck, cp, co, cs, cr⟩ (.slice none 0 0)) 45 (0, 0)) := by rw [hW2]; exact heap_alloc_new _ _
      exact ⟨KeepsL.refl _ _, hblk, World.ownsRow_nil _ _ _ _, obj_lt hblk⟩
    have HB2 := hide ((unhide HB1).trans (hbw.mono (unhide HB1).size))
    have hz1 := (unhide HB1).size
    have hz2 := hbw.size
    have hwb := (unhide HS2).lt
    clear hW2 hbw c0 c1 c2 c3 c4 c5 c6 c7 c8
    go_wp2_with fail
    refine (unhide HTK W2 w1.heap.size 0 0 ⟨#[]⟩ 0 ⟨0, 0, 0, 0, 0, ⟨#[]⟩, 0⟩ (unhide HB2) hz1 (unhide HS2)).mono ?_
    rintro e w5 ⟨rfl, v5, hS5⟩
    obtain ⟨va, vc, hv, _⟩ := GR.own_at (enc := encM) (sz := 7) (l := out.map PM) encM_length hS5.own
    rw [List.length_map] at hv
    subst hv
    have HS5 := hide hS5
    obtain ⟨c0, c1, c2, c3, c4, c5, c6, c7, c8, c9⟩ := tenC hS5.blk
    clear hS5 c0 c1 c2 c3 c4 c5 c6 c7 c8
    have HG : Hid (GivesM w (out.map PM) (.returned (.slice va out.length vc)) w5) := GivesM.of_own (B := W2.heap.size) rfl (unhide HS5).own (by omega) ((unhide HB2).trans ((unhide HS5).keep.below (fun x hx => by have : x = w1.heap.size := (by simpa using hx); omega) (by omega)))
    go_wp2_with fail
    go_ret
    rw [unhide HE]
    exact unhide HG

namespace Mth
theorem asc_of_chkP {α : Type} {p : α → Bool} {f : α → Int} {l : List α} (h : chk p (fun s t => ltB (f s) (f t)) l = true) : l.Pairwise (fun s t => f s < f t) := by
  have := ((chk_iff (p := p) (r := fun s t => ltB (f s) (f t)) (fun a b c h1 h2 => ltB_trans _ _ _ h1 h2)).1 h).2
  exact this.imp (fun h => by simpa [ltB] using h)
theorem low_le {l : List Snt} (hp : l.Pairwise (fun s t => s.i < t.i)) (t ab : Int) : ∀ x ∈ l, x.t = t → lowOf l t ab ≤ x.i := by
  induction l with
  | nil => intro x hx; simp at hx
  | cons y l ih =>
    intro x hx ht
    obtain ⟨h1, h2⟩ := List.pairwise_cons.1 hp
    unfold lowOf
    rw [List.find?_cons]
    by_cases hy : y.t = t
    · rw [decide_eq_true hy]
      rcases List.mem_cons.1 hx with rfl | hx
      · exact Int.le_refl _
      · exact Int.le_of_lt (h1 x hx)
    · rw [decide_eq_false hy]
      rcases List.mem_cons.1 hx with rfl | hx
      · exact absurd ht hy
      · exact ih h2 x hx ht
theorem low_one {l : List Snt} (t ab : Int) (h : ∀ x ∈ l, 1 ≤ x.i) (hab : 1 ≤ ab) : 1 ≤ lowOf l t ab := by
  unfold lowOf
  cases hf : l.find? (fun o => decide (o.t = t)) with
  | none => exact hab
  | some y => exact h y (List.mem_of_find?_eq_some hf)
theorem near_route {n : Nd} (hp : placeB n = true) {x : Int} (h : nearB n x = true) : rtB n.id x = true := by
  unfold placeB at hp
  simp only [Bool.and_eq_true, decide_eq_true_eq] at hp
  obtain ⟨⟨⟨⟨h1, h2⟩, h3⟩, _⟩, h5⟩ := hp
  unfold nearB at h
  rw [Bool.or_eq_true] at h
  unfold rtB
  rcases h with h | h
  · simp only [Bool.and_eq_true, decide_eq_true_eq] at h
    have e : ndB x = true := decide_eq_true ⟨h.1, by omega⟩
    rw [h1, e]
    simp only [Bool.true_and, decide_eq_true_eq]
    intro e2
    omega
  · unfold hasB at h
    rw [List.any_eq_true] at h
    obtain ⟨y, hy, e⟩ := h
    have e' : y = x := by simpa using e
    subst e'
    have hk := chk_mem h5 y hy
    unfold kidB at hk
    simp only [Bool.and_eq_true, decide_eq_true_eq] at hk
    rw [h1, hk.1.1]
    simp only [Bool.true_and, decide_eq_true_eq]
    exact fun e => hk.1.2 e.symm
/-- What the law asks of a right node. -/
theorem pays_right {n : Nd} (h : ndOk n = true) : (∀ x ∈ n.out, mgOk (payM n x) = true) ∧ ∀ x ∈ n.out, ∀ y ∈ n.out, (payM n y).T = (payM n x).T → ¬ (payM n y).I < (payM n x).L := by
  unfold ndOk at h
  simp only [Bool.and_eq_true] at h
  obtain ⟨⟨⟨⟨⟨hp, _⟩, _⟩, hn⟩, ho⟩, _⟩ := h
  unfold outsB at ho
  simp only [Bool.and_eq_true] at ho
  have hm := chk_mem ho.2
  have ha := asc_of_chkP (f := fun s : Snt => s.i) ho.2
  have hn' : 1 ≤ n.next ∧ n.next ≤ 1000000000 := by simpa [smB] using hn
  have h1 : ∀ x ∈ n.out, 1 ≤ x.i := by
    intro x hx
    have := hm x hx
    unfold outB at this
    simp only [Bool.and_eq_true, decide_eq_true_eq] at this
    omega
  constructor
  · intro x hx
    have hx' := hm x hx
    unfold outB at hx'
    simp only [Bool.and_eq_true, decide_eq_true_eq] at hx'
    obtain ⟨⟨⟨hi, hne⟩, hk⟩, hs⟩ := hx'
    have hr := near_route hp hne
    have hl := low_le ha x.t x.i x hx rfl
    have hl1 := low_one x.t x.i h1 (h1 x hx)
    have hsi : smB x.i = true := decide_eq_true ⟨by omega, by omega⟩
    unfold mgOk payM
    dsimp only
    rw [hr, hk, hs, hsi]
    simp only [Bool.true_and]
    rw [if_neg (by decide), if_pos trivial]
    exact decide_eq_true ⟨hl1, hl⟩
  · intro x hx y hy ht
    have := low_le ha x.t x.i y hy ht
    exact Int.not_lt.2 this
end Mth

theorem below_drewP (w : World) (q : Nat) : Below w.heap.size w (w.drewN q) := ⟨rfl, rfl, rfl, Nat.le_refl _, fun _ _ => rfl⟩
set_option maxRecDepth 100000 in
set_option maxHeartbeats 2000000 in
theorem sameMsgsL (a b : Option Addr) (ca cb : Nat) (l : List Mg) (w : World) (hl : l.length ≤ 1048600) (ha : MsgsAt w a l) (hb : MsgsAt w b l) :
    Calls Tryz.prog 7 #[.slice a l.length ca, .slice b l.length cb] w fun e w' => e = .returned (.bool true) ∧ Below w.heap.size w w' := by
  have HA := hide ha
  have HB := hide hb
  clear ha hb
  go_enter Tryz.func7, Tryz.ntmps7
  go_wp2_with fail
  go_loopw [5] (fun i wr => ∃ k q : Nat, k ≤ l.length ∧ i = .int .i64 k ∧ wr = w.drewN q) (fun i _ => l.length - (intOf i).toNat)
  case atStart => exact ⟨0, 0, Nat.zero_le _, rfl, rfl⟩
  case round =>
    obtain ⟨k, q, hk, rfl, rfl⟩ := hrel
    by_cases hlt : k < l.length
    · obtain ⟨g1, o1, rfl, hg1, s0, s1, s2, s3, s4, s5, s6⟩ := MsgsAt.seven (unhide HA) k hlt
      obtain ⟨g2, o2, rfl, hg2, t0, t1, t2, t3, t4, t5, t6⟩ := MsgsAt.seven (unhide HB) k hlt
      generalize l[k] = pu at *
      obtain ⟨pK, pF, pT, pI, pL, pk, pN⟩ := pu
      dsimp only at s0 s1 s2 s3 s4 s5 s6 t0 t1 t2 t3 t4 t5 t6
      go_wp2_with fail
      go_quiet (fail)
      go_wp2_with fail
      go_roundw
      case rel => exact ⟨k + 1, _, by omega, by go_num, rfl⟩
      case measure => simp [intOf]; omega
    · have hke : k = l.length := by omega
      subst hke
      have hnlt : decide ((l.length : Int) < (l.length : Int)) = false := by simp
      go_wp2_with fail
      go_ret
      exact ⟨rfl, below_drewP w q⟩
theorem sameMsgsY (a b : Option Addr) (ca cb m : Nat) (l : List Mg) (w : World) (hm : l.length = m) (hl : m ≤ 1048600) (ha : MsgsAt w a l) (hb : MsgsAt w b l) :
    Calls Tryz.prog 7 #[.slice a m ca, .slice b m cb] w fun e w' => e = .returned (.bool true) ∧ Below w.heap.size w w' := by
  subst hm
  exact sameMsgsL a b ca cb l w hl ha hb
/-- Messages that lie, so many. -/
def GivesL (w : World) (m : Nat) (L : List Mg) (e : Ending) (w' : World) : Prop := ∃ a c, e = .returned (.slice a m c) ∧ MsgsAt w' a L ∧ Below w.heap.size w w'
theorem GivesM.lies {w w' : World} {L : List Mg} {e : Ending} {m : Nat} (hm : L.length = m) (h : GivesM w L e w') : GivesL w m L e w' := by
  subst hm
  obtain ⟨a, c, rfl, g, hW, _, hb⟩ := h
  exact ⟨a, c, rfl, hW.at, hb⟩
theorem implPaysL (n : Nd) (A : Ads) (w : World) (L : List Mg) (m : Nat) (hL : paysL n = L) (hm : L.length = m) (hsz : NdSz n 1048576) (ha : NodeAt w A n) : Calls Tryz.prog 6 #[ndv n A] w (GivesL w m L) := by
  subst hL
  exact (implPays n A w (hsz.mono (by omega)) ha).mono (fun _ _ h => h.lies hm)
theorem specPaysL (n : Nd) (A : Ads) (w : World) (L : List Mg) (m : Nat) (hL : paysL n = L) (hm : L.length = m) (hsz : NdSz n 1048576) (ha : NodeAt w A n) : Calls Tryz.prog 8 #[ndv n A] w (GivesL w m L) := by
  subst hL
  exact (specPays n A w (hsz.mono (by omega)) ha).mono (fun _ _ h => h.lies hm)
end Go.Proofs.YtdlokncalhopoaaGreat
