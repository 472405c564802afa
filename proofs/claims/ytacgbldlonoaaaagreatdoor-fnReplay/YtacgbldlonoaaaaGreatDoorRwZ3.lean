/-
  Parts of proofs that stand more than once, each said once.
-/
import Derived.Test.YtacgbldlonoaaaaGreatDoorRwZ2
namespace Go.Proofs.YtacgbldlonoaaaaGreatDoor
open Go.Proofs.Tryz
set_option maxRecDepth 100000
variable{P:Prop}
theorem aow.AdL(h:P:=by
 clear c0 c1 c2 c3 c4 c5 c6 c7 c8;have hfi:(fin:Int)<=(t.size:Int):=Aaa
 have aCl:(0:Int)<=(fin:Int):=Aaa
 go_upto_region 14 with fail;go_cut [13] (λq wx=>∃qf A6,q= .pointer (some ⟨qf,0,none⟩)/\wx.heap[qf]?=some (.cells (dD m A6) 30 (0,0))/\bQ wx A6 m/\aY wr wx)
 case first=>
  have hwb:wr.heap.size<=wr.heap.size:=Nat.le_refl _;refine kQ 7 wr.heap.size Aab ?_;show jD _ _ _ _ _ _ 8 (Array.replicate 8 false) _ _
  refine tk [0,1,2,3] ?_;iterate 4 (refine tkB hwb (λK hK=>?_);go_simp;first|refine hK _ ?_|(apply Exists.intro;refine⟨λ_=>?_,hK _ ?_⟩;rfl);clear hK K)
  refine jc ?_;clear hwb u0 u1 u2 u3 u4 u5 u6 u7 u8;have V7:=Hq (Below.refl wr.heap.size wr);refine iU 4 6 rfl rfl Aab Aad Aad Aae Aae (λx4 hx4=>?_) (λx6 hx6=>?_)
  .have HGa:=Hq (Ge.trans V7 hx4);go_simp;refine(HR3 x4 (R8.step HGa).bel ((R8.step HGa).nd 2 rfl)).mono ?_;rintro e y4 ⟨A5,G5,c5,rfl,hN5,hb4⟩;refine⟨hb4.mono HGa.size,?_⟩;have HN5:=Hq hN5.at;have HG4:=Hq (Ge.trans HGa hb4);clear hN5;go_simp;refine iU 5 6 rfl rfl Aab Aad Aad Aae Aae (λx5 hx5=>?_) (λx6 hx6=>?_)
   .have YL:=Hq (Ge.trans HG4 hx5);have adp:=Hq (HN5.below hx5);go_simp;refine(HR4 A5 x5 (R8.step YL).bel adp).mono ?_;rintro e y5 ⟨A6,G6,c6,rfl,Tj,hb5⟩;refine⟨hb5.mono YL.size,?_⟩;have UL:=Hq (show NL x5.heap.size y5 A6 m from λF W'' hk hF=>(Tj.kc0 (KC.keeps hk (λx hx=>Tj.lo x (hF x hx)))).at);have HG5:=Hq (Ge.trans YL hb5);clear Tj;go_simp;refine fC 6 rfl Aab Aad Aae (λx6 hx6=>?_);have HGc:=Hq (Ge.trans HG5 hx6);have hqd:x6.heap.size < x5.heap.size\/y5.heap.size<=x6.heap.size:= .inr hx6.size;go_simp;refine⟨(au x6 _).mono HGc.size,?_⟩;have hqV:wr.heap.size<=x6.heap.size:=HGc.size;have HQ:=Hq (heap_alloc_new x6 (.cells fU 30));have HGq:=Hq (Ge.trans HGc (au x6 (.cells fU 30)));have HDf:=Hq (Ge.trans hx6 (au x6 (.cells fU 30)));have HQf:=HQ;have HGf:=HGq;clear hx6;generalize x6.heap.size=qf at *;exact aw5
   .have YL:=Hq (Ge.trans HG4 hx6);go_simp;refine⟨(au x6 _).mono YL.size,?_⟩;have hqV:wr.heap.size<=x6.heap.size:=YL.size;have HQ:=Hq (heap_alloc_new x6 (.cells fU 30));have HGq:=Hq (Ge.trans YL (au x6 (.cells fU 30)));have ayQ:=Hq (HN5.below (Ge.trans hx6 (au x6 (.cells fU 30))));clear hx6;generalize x6.heap.size=qf at *;go_simp;refine fC 5 rfl Aab Aad Aae (λx5 hx5=>?_);have HGc:=Hq (Ge.trans HGq hx5);have adp:=Hq (ayQ.below hx5);have HQx:=Hq (ay HQ hx5);exact axo
  .have HGa:=Hq (Ge.trans V7 hx6);go_simp;refine⟨(au x6 _).mono HGa.size,?_⟩;have hqV:wr.heap.size<=x6.heap.size:=HGa.size;have HQ:=Hq (heap_alloc_new x6 (.cells fU 30));have HGq:=Hq (Ge.trans HGa (au x6 (.cells fU 30)));clear hx6;generalize x6.heap.size=qf at *;go_simp;refine fC 4 rfl Aab Aad Aae (λx4 hx4=>?_);have YL:=Hq (Ge.trans HGq hx4);have HQ:=Hq (ay HQ hx4);go_simp;refine(HR3 x4 (R8.step YL).bel ((R8.step YL).nd 2 rfl)).mono ?_;rintro e y4 ⟨A5,G5,c5,rfl,hN5,hb4⟩;refine⟨hb4.mono YL.size,?_⟩;have HN5:=Hq hN5.at;have HG4:=Hq (Ge.trans YL hb4);have HQ4:=Hq (ay HQ hb4);clear hN5;go_simp;refine fC 5 rfl Aab Aad Aae (λx5 hx5=>?_);have HGc:=Hq (Ge.trans HG4 hx5);have adp:=Hq (HN5.below hx5);have HQx:=Hq (ay HQ4 hx5);exact axo
 case rest=>
  obtain⟨qf,A6,rfl,hb6,Tj,hbx⟩:=hcut;have HL2:=Hq (HS.step hbx);have HSa:=Hq (R8.step hbx);have vP:=Hq hb6;have HN6:=Hq Tj;clear hb6 Tj hbx HS R8 u0 u1 u2 u3 u4 u5 u6 u7 u8;obtain⟨c0,c1,c2,c3,c4,c5,c6,c7,c8⟩:=nine HL2.blk;obtain⟨d0,d1,d2,d3,d4,d5,d6,d7,d8⟩:=nine (HSa.at 0 rfl);go_wp2_with fail;refine(UU A2 Am _ HL2.nod (HSa.nd 1 rfl)).mono ?_;rintro e w6 ⟨rfl,hb6⟩;have HSb:=Hq (HSa.step hb6);have HN7:=Hq (HN6.below hb6);clear c0 c1 c2 c3 c4 c5 c6 c7 c8 d0 d1 d2 d3 d4 d5 d6 d7 d8;obtain⟨c0,c1,c2,c3,c4,c5,c6,c7,c8⟩:=nine (ay vP hb6);obtain⟨d0,d1,d2,d3,d4,d5,d6,d7,d8⟩:=nine (HSb.at 0 rfl);clear hb6 vP HL2 HSa HN6;go_wp2_with fail;refine(UU A6 Am _ HN7 (HSb.nd 1 rfl)).mono ?_;rintro e w7 ⟨rfl,qE⟩;have HSc:=Hq (HSb.step qE);clear qE HSb HN7 c0 c1 c2 c3 c4 c5 c6 c7 c8 d0 d1 d2 d3 d4 d5 d6 d7 d8;go_wp2_with fail;go_ret;exact⟨rfl,HSc.bel⟩):P:=h
theorem aox.AdL(h:P:=by
 have x0:=dB (b:=wr.heap.size) hg1 t0;have x1:=dB (b:=wr.heap.size) hg1 t1;have x2:=dB (b:=wr.heap.size) hg1 t2;have x3:=dB (b:=wr.heap.size) hg1 t3;have x4:=dB (b:=wr.heap.size) hg1 t4;have x5:=dB (b:=wr.heap.size) hg1 t5;have x6:=dB (b:=wr.heap.size) hg1 t6;have x7:=dB (b:=wr.heap.size) hg1 t7;have x8:=dB (b:=wr.heap.size) hg1 t8;have x9:=dB (b:=wr.heap.size) hg1 t9;have x10:=dB (b:=wr.heap.size) hg1 t10;clear c0 c1 c2 c3 c4 c5 c6 c7 c8 t0 t1 t2 t3 t4 t5 t6 t7 t8 t9 t10;exact Aex):P:=h
theorem aiU(h:P:=by
 have hr:(convert 22 9 (.slice (some ⟨g,a+4,none⟩) (s.size - (a+4)) (s.size - (a+4)))).run prog w= .ok (.string (iT (tl s a))) w:=by
  exact aAJ
 have h1:(s.size:Int)<=(a:Int)+1006:=Aaa
 have h2:¬((s.size:Int) - (a:Int) < 4):=Aaa
 have h3:(a:Int)+4 < (s.size:Int):=Aaa
 have hcap2:(s.size:Int)<=(cap:Int):=Aaa
 exact AbU):P:=h
theorem aoy.AbU(h:P:=by
 rw [yU s a 0 4 Aaa] at hq;have hmn:min (s.size:Int) ((a:Int)+1006)=(s.size:Int):=Int.min_eq_left Aaa;exact aw7):P:=h
theorem aoz.AbU(h:P:=by
 rw [yU s a 0 4 Aaa] at hq;have hmn:min (s.size:Int) ((a:Int)+1006)=(s.size:Int):=Int.min_eq_left Aaa;exact aw6):P:=h
theorem aoA.AbU(h:P:=by
 have hmn:min (s.size:Int) ((a:Int)+1006)=(s.size:Int):=Int.min_eq_left Aaa;exact axp):P:=h
theorem awF(h:P:=by
 open asJ in exact aac):P:=h
theorem aoB.Ac7(h:P:=by
 refine iU 5 7 rfl rfl Aab Aad Aad Aae Aae (λx2 hx2=>?_) (λx2 hx2=>?_)
 .open alG in exact awd
 .go_simp;open att in exact aag):P:=h
theorem aoC.Ac7(h:P:=by
 refine iU 5 7 rfl rfl Aab Aad Aad Aae Aae (λx2 hx2=>?_) (λx2 hx2=>?_)
 .open alF in exact awd
 .go_simp;open atr in exact aag):P:=h
theorem awG(h:P:=by
 have YR:=Hq (ay xB hbw);have HR3:=Hq (ay HR1 hbw);have Ei:=Hq (ay HO1 hbw);have HB3:=Hq (HB1.trans (hbw.mono HB1.size));clear hW3 hbw c0 c1 c2 c3 c4 c5 c6 c7 c8 d0 d1 d2 d3;obtain⟨c0,c1,c2,c3,c4,c5,c6,c7,c8⟩:=nine YR;obtain⟨d0,d1,d2,d3⟩:=gP HR3;obtain⟨r0,r1,r2,r3,r4,r5,r6⟩:=jY Ei;have f0:=aj Ei 0;have f1:=aj Ei 1;have f2:=aj Ei 2;have f3:=aj Ei 3;have f4:=aj Ei 4;have f5:=aj Ei 5;have f6:=aj Ei 6;go_wp2_with fail;refine aO (λW' hW'=>?_);exact AfA):P:=h
theorem aoD.AfA(h:P:=by
 have hR:=yP (b0:= .int .i64 1) (b1:= .int .i64 id) (b2:= .int .i64 st) (b3:= .int .i64 si) (b4:= .int .i64 LO) (b5:= .string sx) (b6:= .int .i64 sn) Ei;have hK:=uS (w:=W3) (g:=w.heap.size+1+1) (b0:= .int .i64 1) (b1:= .int .i64 id) (b2:= .int .i64 st) (b3:= .int .i64 si) (b4:= .int .i64 LO) (b5:= .string sx) (b6:= .int .i64 sn);rw [<-hW'] at hR hK;obtain⟨x0,x1,x2,x3,x4,x5,x6⟩:=jY hR;refine bodyPost_ret (v:= .agg (cK 1 id st si LO sx sn)) Adz rfl ⟨rfl,HB3.trans (hK.below (λx hx=>by have:x=w.heap.size+1+1:=Aag;omega) HB3.size)⟩):P:=h
theorem aoE.AfA(h:P:=by
 have hR:=yP (b0:= .int .i64 1) (b1:= .int .i64 id) (b2:= .int .i64 st) (b3:= .int .i64 LO) (b4:= .int .i64 LO) (b5:= .string sx) (b6:= .int .i64 sn) Ei;have hK:=uS (w:=W3) (g:=w.heap.size+1+1) (b0:= .int .i64 1) (b1:= .int .i64 id) (b2:= .int .i64 st) (b3:= .int .i64 LO) (b4:= .int .i64 LO) (b5:= .string sx) (b6:= .int .i64 sn);rw [<-hW'] at hR hK;obtain⟨x0,x1,x2,x3,x4,x5,x6⟩:=jY hR;refine bodyPost_ret (v:= .agg (cK 1 id st LO LO sx sn)) Adz rfl ⟨rfl,HB3.trans (hK.below (λx hx=>by have:x=w.heap.size+1+1:=Aag;omega) HB3.size)⟩):P:=h
theorem aiV(h:P:=by
 have hr:(convert 22 9 (.slice (some ⟨g,a+4,none⟩) 1002 1002)).run prog w= .ok (.string (iT (tl s a))) w:=by
  exact aAM
 have h1:¬((s.size:Int)<=(a:Int)+1006):=Aaa
 have h3:(a:Int)+1006 < (s.size:Int):=Aaa
 have h31:¬((a:Int)+1006 - (a:Int) < 4):=Aaa
 have hcap2:(s.size:Int)<=(cap:Int):=Aaa
 exact AbT):P:=h
theorem aoF.AbT(h:P:=by
 rw [yU s a 0 4 Aaa] at hq;have hmn:min (s.size:Int) ((a:Int)+1006)=(a:Int)+1006:=Int.min_eq_right Aaa;exact aw7):P:=h
theorem aoG.AbT(h:P:=by
 rw [yU s a 0 4 Aaa] at hq;have hmn:min (s.size:Int) ((a:Int)+1006)=(a:Int)+1006:=Int.min_eq_right Aaa;exact aw6):P:=h
theorem aoH.AbT(h:P:=by
 have hmn:min (s.size:Int) ((a:Int)+1006)=(a:Int)+1006:=Int.min_eq_right Aaa;exact axp):P:=h
theorem awH(h:P:=by
 have HAT:=Hq (λW'' (ho:Out c w W' W'')=>(KO.kc (k:=9) ((KC.keeps gL (λx hx=>by have:x=w.heap.size+2:=Aag;rw [this];exact aZ Aaa)).trans (KC.out H9 ho)) Aaa).rm);have nO:Hid (Below B w W'):=(vQ.mono hB).trans (gL.below (λx hx=>by have:x=w.heap.size+2:=Aag;omega) (Nat.le_trans hB (vQ.mono hB).size));have tZ:=Hq (Apart.keeps (c:=c) (Apart.of_below vQ) (vQ.mono hB).size gL (λx hx=>by have:x=w.heap.size+2:=Aag;omega));obtain⟨x0,x1,x2,x3,x4,x5,x6,x7,x8⟩:=nine e4;clear hW' e4 gL;exact AfC):P:=h
theorem aoI.AfC(h:P:=by
 exact AaG):P:=h
theorem aoJ.AfC(h:P:=by
 exact bodyPost_ret (v:= .tuple #[(fT n A),.slice (some ⟨W1.heap.size,0,none⟩) 0 0,.int .i64 3]) Abx rfl ⟨A,some ⟨W1.heap.size,0,none⟩,0,rfl,HAT,λW'' _ i hi=>Aav,nO,tZ⟩):P:=h
theorem yc(h:P:=by
 obtain⟨id,par,kids,next,pu,out,seen,old,reqs⟩:=n;obtain⟨ak,ap,ao,as',ar,ck,cp,co,cs,cr⟩:=A;exact AaP):P:=h
theorem aoK.AaP(h:P:=by
 dsimp only at hl HA HD Hl xG Dt Ee ⊢;cases h1:rZ id
 case' false=>
  have HP:=Hq (HD (by rw [h1];rfl))
  clear HD Hl xG Dt Ee
  go_in
  go_wp2_with (first|(go_at_call 134;refine(lW _ false _ h1).mono ?_;rintro e w1 ⟨rfl,rfl⟩))
  go_ret
  exact⟨aD HP.symm,au w _⟩
 cases h2:decide (-1<=par/\par<=29)
 case' false=>
  have HP:=Hq (HD (by rw [h2];simp))
  clear HD Hl xG Dt Ee
  go_in
  go_wp2_with (first|(go_at_call 134;refine(lW _ true _ h1).mono ?_;rintro e w1 ⟨rfl,rfl⟩)|(go_at_call 63;refine(uI _ _ _ false _ h2).mono ?_;rintro e w1 ⟨rfl,rfl⟩))
  go_ret
  exact⟨aD HP.symm,au w _⟩
 by_cases h3:par=id
 case' pos=>
  have hb3:(par == id)=true:=by simp[h3]
  have HP:=Hq (HD (by simp[h3]))
  clear h3 HD Hl xG Dt Ee
  go_in
  go_wp2_with (first|(go_at_call 134;refine(lW _ true _ h1).mono ?_;rintro e w1 ⟨rfl,rfl⟩)|(go_at_call 63;refine(uI _ _ _ true _ h2).mono ?_;rintro e w1 ⟨rfl,rfl⟩))
  go_ret
  exact⟨aD HP.symm,au w _⟩
 have hb3:(par == id)=false:=by simp[h3]
 by_cases h4:kids.length<=30
 case' neg=>
  have hb4:decide ((30:Int) < kids.length)=true:=decide_eq_true Aaa
  have HP:=Hq (HD (by simp[h4]))
  clear HD Hl xG Dt Ee
  go_in
  go_wp2_with (first|(go_at_call 134;refine(lW _ true _ h1).mono ?_;rintro e w1 ⟨rfl,rfl⟩)|(go_at_call 63;refine(uI _ _ _ true _ h2).mono ?_;rintro e w1 ⟨rfl,rfl⟩))
  go_ret
  exact⟨aD HP.symm,au w _⟩
 have hb4:decide ((30:Int) < kids.length)=false:=decide_eq_false Aaa;have lD:=Hq (Hl h1 (of_decide_eq_true h2) h3 h4);clear HD Hl;go_in
 go_wp2_with (first|(go_at_call 134;refine(lW _ true _ h1).mono ?_;rintro e w1 ⟨rfl,rfl⟩)|(go_at_call 63;refine(uI _ _ _ true _ h2).mono ?_;rintro e w1 ⟨rfl,rfl⟩))
 go_loopw [3] (λi wr=>∃k:Nat,k<=kids.length/\i= .int .i64 k/\iB (jN id par) iQ (kids.take k)=true/\wr.heap[w.heap.size]?=some (.cells (dD ⟨id,par,kids,next,pu,out,seen,old,reqs⟩ ⟨ak,ap,ao,as',ar,ck,cp,co,cs,cr⟩) 30 (0,0))/\aY w wr) (λi _=>kids.length - (intOf i).toNat)
 case atStart=>exact⟨0,Nat.zero_le _,rfl,rfl,heap_alloc_new w _,au w _⟩
 case round=>
  open aog in exact adM):P:=h
theorem aoL.AaP(h:P:=by
 dsimp only at hl hl2 HA HS UK HD xG Dt Ee Nu lU ⊢;go_in
 go_upto_if 12 with fail;open apC in exact ZW):P:=h
theorem aoM.AaP(h:P:=by
 dsimp only at Ob HPU HTO Nu HOT Oe HD lU ⊢;have hlo:=hz.o;have hlr:=hz.r;dsimp only at hlo hlr;clear ha hz;go_in
 go_upto_region 1 with fail;open apB in exact ZW):P:=h
theorem aoN.AaP(h:P:=by
 obtain⟨si,st,sx,sn⟩:=s;dsimp only at hl HA HLY yY Ef HP HR HO HB ⊢;obtain⟨c0,c1,c2,c3,c4,c5,c6,c7,c8⟩:=nine HP;obtain⟨d0,d1,d2,d3⟩:=gP HR;go_in
 go_wp2_with fail;go_loopw [5,13] (λlv i wr=>∃k:Nat,k<=out.length/\i= .int .i64 k/\lv= .int .i64 si/\(out.take k).find? (λo=>decide (o.t=st))=none/\Below (((w.alloc (.cells (dD ⟨id,par,kids,next,pu,out,seen,old,reqs⟩ ⟨ak,ap,ao,as',ar,ck,cp,co,cs,cr⟩) 30)).alloc (.cells (fI si st sx sn) 95)).alloc (.cells zm7 32)).heap.size (((w.alloc (.cells (dD ⟨id,par,kids,next,pu,out,seen,old,reqs⟩ ⟨ak,ap,ao,as',ar,ck,cp,co,cs,cr⟩) 30)).alloc (.cells (fI si st sx sn) 95)).alloc (.cells zm7 32)) wr) (λ_ i _=>out.length - (intOf i).toNat)
 case atStart=>exact⟨0,Nat.zero_le _,rfl,rfl,rfl,Below.refl _ _⟩
 case round=>
  obtain⟨k,hk,rfl,rfl,hno,hbx⟩:=hrel;have HN:=Hq hno;have xB:=Hq (ay HP hbx);have HR1:=Hq (ay HR hbx);have HO1:=Hq (ay HO hbx);have HB1:=Hq (HB.trans (hbx.mono HB.size));have lU:=Hq hbx;clear hno hbx c0 c1 c2 c3 c4 c5 c6 c7 c8 d0 d1 d2 d3;obtain⟨c0,c1,c2,c3,c4,c5,c6,c7,c8⟩:=nine xB;obtain⟨d0,d1,d2,d3⟩:=gP HR1;have hrz:=aA HO1;have aCJ:w.heap.size+1 < wr.heap.size:=Aaa
  have aCI:w.heap.size < wr.heap.size:=Aaa
  by_cases hlt:k < out.length
  .obtain⟨g,off,e0,hgw,q0,q1,q2,q3⟩:=SentAt.four (GR.At.below HA HB1) k hlt;(try dsimp only at e0 q0 q1 q2 q3)
   subst e0;by_cases ht:(out[k]).t=st
   .have HY:=Hq (HLY k hlt HN ht);have hb:((out[k]).t == st)=true:=by simp[ht]
    clear ht HLY yY Ef;generalize out[k]=sk at *;obtain⟨ui,ut,ux,un⟩:=sk;dsimp only at q0 q1 q2 q3 hb HY;have hyy:=ah HY;subst hyy;go_upto_region 8 with fail;refine wp_at (λW3 hW3=>?_);have hbw:aY wr W3:=by rw [hW3];exact au wr _
    open aoD in exact awG
   .have HS:=Hq (yY k hlt HN ht);have hb:((out[k]).t == st)=false:=by simp[ht]
    clear ht HLY yY Ef;generalize out[k]=sk at *;obtain⟨ui,ut,ux,un⟩:=sk;dsimp only at q0 q1 q2 q3 hb;go_wp2_with fail;go_roundw
    case rel=>exact⟨k+1,Aaa,Aai,rfl,HS,lU.alloc lU.size _⟩
    case measure=>simp[intOf];omega
  .open an7 in exact aax):P:=h
theorem aoO.AaP(h:P:=by
 dsimp only at hl HA HLY yY Ef c0 c1 c2 c3 c4 c5 c6 c7 c8 ⊢;go_in
 go_wp2_with fail;go_loop [7] (λi=>∃k:Nat,k<=out.length/\i= .int .i64 k/\(out.take k).find? (λo=>decide (o.t=t))=none) (λi=>out.length - (intOf i).toNat)
 case atStart=>exact⟨0,Nat.zero_le _,rfl,rfl⟩
 case round=>
  obtain⟨k,hk,rfl,hno⟩:=hrel;have HN:=Hq hno;clear hno;by_cases hlt:k < out.length
  .obtain⟨g,off,e0,hgw,q0,q1,q2,q3⟩:=SentAt.four HA k hlt;subst e0;by_cases ht:(out[k]).t=t
   .have HY:=Hq (HLY k hlt HN ht);have hb:((out[k]).t == t)=true:=by simp[ht]
    clear ht HLY yY Ef;generalize out[k]=sk at *;obtain⟨si,st,sx,sn⟩:=sk;dsimp only at q0 q1 q2 q3 hb HY;go_wp2_with fail;go_ret;exact⟨MH HY.symm,au w _⟩
   .have HS:=Hq (yY k hlt HN ht);have hb:((out[k]).t == t)=false:=by simp[ht]
    clear ht HLY yY Ef;generalize out[k]=sk at *;obtain⟨si,st,sx,sn⟩:=sk;dsimp only at q0 q1 q2 q3 hb;go_wp2_with fail;go_round
    case rel=>exact⟨k+1,Aaa,Aai,HS⟩
    case measure=>simp[intOf];omega
  .open an8 in exact aax):P:=h
theorem aoP.AaP(h:P:=by
 obtain⟨si,st,sx,sn⟩:=s;dsimp only at hl HLW hP hR hO hB ⊢;have HP:=Hq hP;have HR:=Hq hR;have HO:=Hq hO;have HB:=Hq hB;clear ha hP hR hO hB YV;go_in
 go_upto_region 1 with fail;refine wp_at (λW hW=>?_);rw [<-hW] at HP HR HO HB;have ayL:=Hq (HLW W HB);have hz2:w.heap.size+1+1 < W.heap.size:=aA HO;have hz1:w.heap.size+1 < W.heap.size:=Aaa
 have hz0:w.heap.size < W.heap.size:=Aaa
 have hne0:w.heap.size+1+1≠w.heap.size:=Aaa
 have hne1:w.heap.size+1+1≠w.heap.size+1:=Aaa
 clear hW HLW;obtain⟨c0,c1,c2,c3,c4,c5,c6,c7,c8⟩:=nine HP;obtain⟨d0,d1,d2,d3⟩:=gP HR
 go_region_held (λw'=>(w'.cell? ⟨w.heap.size,0,none⟩=some (.int .i64 id)/\w'.cell? ⟨w.heap.size,1,none⟩=some (.int .i64 par)/\w'.cell? ⟨w.heap.size,2,none⟩=some (.slice ak kids.length ck)/\w'.cell? ⟨w.heap.size,3,none⟩=some (.int .i64 next)/\w'.cell? ⟨w.heap.size,4,none⟩=some (.slice ap pu.length cp)/\w'.cell? ⟨w.heap.size,5,none⟩=some (.slice ao out.length co)/\w'.cell? ⟨w.heap.size,6,none⟩=some (.slice as' seen.length cs)/\w'.cell? ⟨w.heap.size,7,none⟩=some (.int .i64 old)/\w'.cell? ⟨w.heap.size,8,none⟩=some (.slice ar reqs.length cr))/\w'.cell? ⟨w.heap.size+1,0,none⟩=some (.int .i64 si)/\w'.cell? ⟨w.heap.size+1,1,none⟩=some (.int .i64 st)/\w'.cell? ⟨w.heap.size+1,2,none⟩=some (.string sx)/\w'.cell? ⟨w.heap.size+1,3,none⟩=some (.int .i64 sn)) (first|go_keep|(refine⟨⟨?_,?_,?_,?_,?_,?_,?_,?_,?_⟩,?_,?_,?_,?_⟩<;>first|exact aAX hne0 (by assumption)|exact aAX hne1 (by assumption)))
  (first
   |(go_at_call 127;refine(ayL W.drew rfl).mono ?_;rintro e w5 ⟨rfl,hb5⟩;have hb6:aY W w5:=⟨hb5.os,hb5.tape,hb5.output,hb5.size,hb5.block⟩;clear hb5;have Nw:=Hq (ay HP hb6);have BF:=Hq (ay HR hb6);have xA:=Hq (ay HO hb6);have iX:=Hq (HB.trans (hb6.mono HB.size));clear hb6;obtain⟨y0,y1,y2,y3,y4,y5,y6,y7,y8⟩:=nine Nw;obtain⟨z0,z1,z2,z3⟩:=gP BF;obtain⟨r0,r1,r2,r3,r4,r5,r6⟩:=jY xA;have f0:=aj xA 0;have f1:=aj xA 1;have f2:=aj xA 2;have f3:=aj xA 3;have f4:=aj xA 4;have f5:=aj xA 5;have f6:=aj xA 6))
 all_goals
  go_wp2_with fail
  refine aO (λW' hW'=>?_)
  have hR:=yP (b0:= .int .i64 1) (b1:= .int .i64 id) (b2:= .int .i64 st) (b3:= .int .i64 si) (b4:= .int .i64 LO) (b5:= .string sx) (b6:= .int .i64 sn) xA
  have hK:=uS (w:=w5) (g:=w.heap.size+1+1) (b0:= .int .i64 1) (b1:= .int .i64 id) (b2:= .int .i64 st) (b3:= .int .i64 si) (b4:= .int .i64 LO) (b5:= .string sx) (b6:= .int .i64 sn)
  rw [<-hW'] at hR hK
  obtain⟨x0,x1,x2,x3,x4,x5,x6⟩:=jY hR
  refine bodyPost_ret (v:= .agg (cK 1 id st si LO sx sn)) (by simp[results,results51,go_sem,x0,x1,x2,x3,x4,x5,x6]) rfl ⟨rfl,iX.trans (hK.below (λx hx=>by have:x=w.heap.size+1+1:=Aag;omega) iX.size)⟩):P:=h
theorem aoQ.AaP(h:P:=by
 dsimp only at hlo HAO KQ lD EI Ob ⊢;go_in
 go_upto_region 1 with fail;refine wp_at (λW0 hW0=>?_);rw [<-hW0] at KQ;have HB0:Hid (aY w W0):=Acx
 have aef:w.heap.size < W0.heap.size:=aA KQ;have aCE:w.heap.size≠W0.heap.size:=Aaa
 clear hW0;have akI:Hid ((W0.alloc (.cells #[] 32)).ownsRow W0.heap.size 32 7 (.slice (some ⟨W0.heap.size,0,none⟩) 0 0) 0 []):=World.ownsRow_lit (base:=W0.heap.size) (e:=32) (size:=7) W0 #[] 0 (Nat.le_refl _) Aae rfl;go_wp2_with fail;go_loopw [3,4] (λov i wr=>∃(k:Nat) (va:Option Addr) (vc:Nat),k<=out.length/\i= .int .i64 k/\ov= .slice va k vc/\wr.ownsRow W0.heap.size 32 7 (.slice va k vc) k (GR.flat lF ((out.take k).map PM))/\aY W0 wr/\(0 < k->OK=true)) (λ_ i _=>out.length - (intOf i).toNat)
 case atStart=>exact⟨0,some ⟨W0.heap.size,0,none⟩,0,Nat.zero_le _,rfl,rfl,akI,au W0 _,λh=>Aaa⟩
 case round=>
  obtain⟨k,va,vc,hk,rfl,rfl,hown,hbel,hpos⟩:=hrel;have HO:=Hq hown;have gI:=Hq hbel;have HW:=Hq (HB0.trans (hbel.mono HB0.size));have xB:=Hq (ay KQ hbel);clear hown hbel akI;obtain⟨c0,c1,c2,c3,c4,c5,c6,c7,c8⟩:=nine xB;by_cases hlt:k < out.length
  .obtain⟨g,off,e0,hg,q0,q1,q2,q3⟩:=SentAt.four (GR.At.below HAO HB0) k hlt;subst e0;have akQ:=Hq (lD wr HW);go_wp2_with fail;refine akQ.mono ?_;rintro e w4 ⟨rfl,hb4⟩;have Nv:=Hq (GR.own_below HO hb4);have EB:=Hq (gI.trans (hb4.mono gI.size));clear hb4 akQ c0 c1 c2 c3 c4 c5 c6 c7 c8 xB gI HW HO;have Wp:=Hq (ay KQ EB);have xC:=Hq (HB0.trans (EB.mono HB0.size));cases hOK:OK
   .have hk0:k=0:=by
     rcases Nat.eq_zero_or_pos k with h|h
     .exact h
     .exact absurd (hpos h) (by rw [hOK];simp)
    subst hk0;have HE:Hid (L=[]):=by rw [ah Ob,hOK];rfl
    clear hpos hOK Ob;go_wp2_with fail;go_ret;rw [ah HE];exact Bv.of_own rfl Nv Aaa xC
   .clear hpos;have aiF:=Hq (EI out[k] w4 xC);have HT:=Hq (show(out.take (k+1)).map PM=(out.take k).map PM++[PM out[k]] by rw [List.take_succ_eq_append_getElem hlt,List.map_append];rfl);generalize out[k]=sk at *;generalize PM sk=mk at *;obtain⟨si,st,sx,sn⟩:=sk;obtain⟨mK,mF,mT,mI,mL,mk,mN⟩:=mk;dsimp only at q0 q1 q2 q3;have HQ0:=Hq q0;have HQ1:=Hq q1;have HQ2:=Hq q2;have HQ3:=Hq q3;have x0:=(EB.cell (p:=⟨g,off+k*4,none⟩) hg).trans q0;have x1:=(EB.cell (p:=⟨g,off+k*4+1,none⟩) hg).trans q1;have x2:=(EB.cell (p:=⟨g,off+k*4+2,none⟩) hg).trans q2;have x3:=(EB.cell (p:=⟨g,off+k*4+3,none⟩) hg).trans q3;clear q0 q1 q2 q3;obtain⟨c0,c1,c2,c3,c4,c5,c6,c7,c8⟩:=nine Wp;go_wp2_with fail
    go_region_held_law (λw'=>(w'.cell? ⟨w.heap.size,0,none⟩=some (.int .i64 id)/\w'.cell? ⟨w.heap.size,1,none⟩=some (.int .i64 par)/\w'.cell? ⟨w.heap.size,2,none⟩=some (.slice ak kids.length ck)/\w'.cell? ⟨w.heap.size,3,none⟩=some (.int .i64 next)/\w'.cell? ⟨w.heap.size,4,none⟩=some (.slice ap pu.length cp)/\w'.cell? ⟨w.heap.size,5,none⟩=some (.slice (some ⟨g,off,none⟩) out.length co)/\w'.cell? ⟨w.heap.size,6,none⟩=some (.slice as' seen.length cs)/\w'.cell? ⟨w.heap.size,7,none⟩=some (.int .i64 old)/\w'.cell? ⟨w.heap.size,8,none⟩=some (.slice ar reqs.length cr))/\w'.cell? ⟨g,off+k*4,none⟩=some (.int .i64 si)/\w'.cell? ⟨g,off+k*4+1,none⟩=some (.int .i64 st)/\w'.cell? ⟨g,off+k*4+2,none⟩=some (.string sx)/\w'.cell? ⟨g,off+k*4+3,none⟩=some (.int .i64 sn)) (go_keep)
     (first
      |((go_at_call 51);(refine(aiF w4.drew rfl).mono ?_);(rintro e w5 ⟨rfl,hb5⟩);(have hb6:aY w4 w5:=⟨hb5.os,hb5.tape,hb5.output,hb5.size,hb5.block⟩);(clear hb5);(have xA:=Hq (GR.own_below Nv hb6));(have mH:=Hq (EB.trans (hb6.mono EB.size)));(clear hb6);(have Nw:=Hq (ay KQ mH));(obtain⟨y0,y1,y2,y3,y4,y5,y6,y7,y8⟩:=nine Nw);(have u0:=(mH.cell (p:=⟨g,off+k*4,none⟩) hg).trans HQ0);(have u1:=(mH.cell (p:=⟨g,off+k*4+1,none⟩) hg).trans HQ1);(have u2:=(mH.cell (p:=⟨g,off+k*4+2,none⟩) hg).trans HQ2);(have u3:=(mH.cell (p:=⟨g,off+k*4+3,none⟩) hg).trans HQ3))
      |((refine CG _ rfl (.tmp 17) (.tmp 25) 37 rfl W0.heap.size 32 i0 (.agg (cK 0 0 0 0 0 ByteArray.empty 0)) 7 64 underlying37 hi hz0 hz1 hz2 rfl Aae (.slice va k vc) k (GR.flat lF ((out.take k).map PM)) Aaj (xA.alloc _) ⟨w5.heap.size,0,none⟩ 1 1 (lF ⟨mK,mF,mT,mI,mL,mk,mN⟩) Aaj rfl (World.news_of_block (heap_alloc_new w5 _)) (O4 _) Aah Aaa (Nat.le_trans mH.size Aac) ?_);(intro v6 w6 hown6 rA Pj);(have nu:w6.ownsRow W0.heap.size 32 7 v6 (k+1) (GR.flat lF ((out.take (k+1)).map PM)):=by rw [ah HT,jd];exact hown6);(obtain⟨va6,vc6,hv6,_⟩:=GR.own_at (enc:=lF) (sz:=7) (l:=(out.take (k+1)).map PM) oW (by rw [List.length_map,List.length_take,Nat.min_eq_left Aaa];exact nu));(rw [List.length_map,List.length_take,Nat.min_eq_left Aaa] at hv6);(subst hv6);(have HO6:=Hq nu);(have Nz:=Hq (show aY W0 w6 from(mH.alloc mH.size _).trans (Ll rA (λk e=>(xA.lt k e).1) (Nat.le_trans mH.size Aac))));(clear hown6 rA Pj nu);(have Zv:=Hq (ay KQ Nz));(obtain⟨z0,z1,z2,z3,z4,z5,z6,z7,z8⟩:=nine Zv);(have t0:=(Nz.cell (p:=⟨g,off+k*4,none⟩) hg).trans HQ0);(have t1:=(Nz.cell (p:=⟨g,off+k*4+1,none⟩) hg).trans HQ1);(have t2:=(Nz.cell (p:=⟨g,off+k*4+2,none⟩) hg).trans HQ2);(have t3:=(Nz.cell (p:=⟨g,off+k*4+3,none⟩) hg).trans HQ3))
      |fail)
    all_goals
     go_wp2_with fail
     go_roundw
     case rel=>exact⟨k+1,va6,vc6,Aaa,Aai,rfl,HO6,Nz,λ_=>hOK⟩
     case measure=>simp[intOf];omega
  .open an9 in exact aax):P:=h
theorem aoR.AaP(h:P:=by
 dsimp only at hl HD HA xG kR yY UJ lU ⊢;clear ha;go_in
 go_upto_region 1 with fail;refine wp_at (λW0 hW0=>?_);have hblk:W0.heap[w.heap.size]?=some (.cells (dD ⟨id,par,kids,next,pu,out,seen,old,reqs⟩ ⟨ak,ap,ao,as',ar,ck,cp,co,cs,cr⟩) 30 (0,0)):=by rw [hW0];exact lU
 have NK:Hid (aY w W0):=Acx
 obtain⟨c0,c1,c2,c3,c4,c5,c6,c7,c8⟩:=nine hblk;clear hW0 lU hblk;obtain⟨bb,hbb⟩:∃bb,(!(rZ id&&(decide (par= -1)||(rZ par&&decide (par≠id)))))=bb:=⟨_,rfl⟩;have fO:=Hq hbb;clear hbb;go_cut [27] (λr wx=>r= .bool bb/\wx=W0)
 case first=>
  cases h1:rZ id
  case' false=>
   have HV:=Hq (show bb=true by rw [<-ah fO];simp[h1])
   have H1:=Hq (λw1=>isNode id false w1 h1)
   clear fO h1
   go_wp2_with (go_at_call 128;refine(H1 _).mono ?_;rintro e w1 ⟨rfl,rfl⟩)
   go_meet
   case rel=>exact⟨Aam,rfl⟩
  have H1:=Hq (λw1=>isNode id true w1 h1);by_cases h2:par= -1
  case' pos=>
   have HV:=Hq (show bb=false by rw [<-ah fO];simp[h1,h2])
   have hb2:(par != -1)=false:=by simp[h2]
   clear fO h1 h2
   go_wp2_with (go_at_call 128;refine(H1 _).mono ?_;rintro e w1 ⟨rfl,rfl⟩)
   go_meet
   case rel=>exact⟨Aam,rfl⟩
  have hb2:(par != -1)=true:=by simp[h2]
  cases h3:rZ par
  case' false=>
   have HV:=Hq (show bb=true by rw [<-ah fO];simp[h2,h3])
   have H3:=Hq (λw1=>isNode par false w1 h3)
   clear fO h1 h2 h3
   go_wp2_with (first|(go_at_call_of 128 id;refine(H1 _).mono ?_;rintro e w1 ⟨rfl,rfl⟩)|(go_at_call_of 128 par;refine(H3 _).mono ?_;rintro e w1 ⟨rfl,rfl⟩))
   go_meet
   case rel=>exact⟨Aam,rfl⟩
  have H3:=Hq (λw1=>isNode par true w1 h3);by_cases h4:par=id
  case' pos=>
   have HV:=Hq (show bb=true by rw [<-ah fO,decide_eq_false h2,decide_eq_false (show¬(par≠id) from λh=>h h4)];simp)
   have hb4:(par == id)=true:=by simp[h4]
   subst h4
   clear fO h1 h2 h3
   go_wp2_with (go_at_call 128;refine(H1 _).mono ?_;rintro e w1 ⟨rfl,rfl⟩)
   go_meet
   case rel=>exact⟨Aam,rfl⟩
  have HV:=Hq (show bb=false by rw [<-ah fO];simp[h1,h3,h4]);have hb4:(par == id)=false:=by simp[h4]
  clear fO h1 h2 h3;go_wp2_with (first|(go_at_call_of 128 id;refine(H1 _).mono ?_;rintro e w1 ⟨rfl,rfl⟩)|(go_at_call_of 128 par;refine(H3 _).mono ?_;rintro e w1 ⟨rfl,rfl⟩))
  go_meet
  case rel=>exact⟨Aam,rfl⟩
 case rest=>
  obtain⟨rfl,rfl⟩:=hcut;cases hbv:bb
  case' true=>
   have HP:Hid (TT=false):=by
    have h:=ah fO;rw [hbv] at h;rw [ah HD];generalize (rZ id&&(decide (par= -1)||(rZ par&&decide (par≠id))))=X at *;cases X
    .rfl
    .cases h
   clear fO HD
   subst hbv
   go_wp2_with fail
   go_ret
   exact⟨aD HP.symm,NK⟩
  have lD:Hid (TT=iB KB iQ kids):=by
   have h:=ah fO;rw [hbv] at h;rw [ah HD];generalize (rZ id&&(decide (par= -1)||(rZ par&&decide (par≠id))))=X at *;cases X
   .cases h
   .rfl
  clear fO HD;subst hbv;go_wp2_with fail;go_loop [3,31] (λlv i=>∃(k:Nat) (y:Int),k<=kids.length/\i= .int .i64 k/\lv= .int .i64 y/\y=xR (λx=>x) (-1) (kids.take k)/\iB KB iQ (kids.take k)=true) (λ_ i=>kids.length - (intOf i).toNat)
  case atStart=>exact⟨0,-1,Nat.zero_le _,rfl,rfl,rfl,rfl⟩
  case round=>
   obtain⟨k,y,hk,rfl,rfl,hy,hall⟩:=hrel;have mU:=Hq hall;have HY:=Hq hy;clear hall hy;by_cases hlt:k < kids.length
   case' neg=>
    have hke:k=kids.length:=Aaa
    subst hke
    have hnlt:decide ((kids.length:Int) < (kids.length:Int))=false:=Aac
    have HF:Hid (TT=true):=by
     exact WH
    go_wp2_with fail
    go_ret
    exact⟨aD HF.symm,NK⟩
   obtain⟨g,off,rfl,hgw,q0⟩:=dX.one (GR.At.below HA NK) k hlt;have HBAD:Hid (iB KB iQ (kids.take (k+1))=false->TT=false):=λh=>lD.trans (xG _ h)
   have gU:Hid (iB KB iQ (kids.take (k+1))=(KB kids[k]&&decide (y < kids[k]))):=by
    exact ahd
   have Ef:=Hq (yY k hlt);have Dy:=Hq (UJ kids[k]);clear kR yY xG UJ;generalize kids[k]=x at *;cases h1:rZ x
   case' false=>
    have H1:=Hq (λw1=>isNode x false w1 h1)
    have HV:=Hq (HBAD (by rw [ah gU,ah Dy];simp[h1]))
    clear HBAD gU Dy h1
    go_wp2_with (go_at_call 128;refine(H1 _).mono ?_;rintro e w1 ⟨rfl,rfl⟩)
    go_ret
    exact⟨aD HV.symm,NK⟩
   have H1:=Hq (λw1=>isNode x true w1 h1);by_cases h2:y < x
   case' neg=>
    have hb2:decide (x<=y)=true:=decide_eq_true Aaa
    have HV:=Hq (HBAD (by rw [ah gU,ah Dy];simp[h2]))
    clear HBAD gU Dy h1
    go_wp2_with (go_at_call 128;refine(H1 _).mono ?_;rintro e w1 ⟨rfl,rfl⟩)
    go_ret
    exact⟨aD HV.symm,NK⟩
   have hb2:decide (x<=y)=false:=decide_eq_false Aaa;by_cases h3:x=id
   case' pos=>
    have hb3:(x == id)=true:=by simp[h3]
    have HV:=Hq (HBAD (by rw [ah gU,ah Dy];simp[h3]))
    clear HBAD gU Dy h1 h3
    go_wp2_with (go_at_call 128;refine(H1 _).mono ?_;rintro e w1 ⟨rfl,rfl⟩)
    go_ret
    exact⟨aD HV.symm,NK⟩
   have hb3:(x == id)=false:=by simp[h3]
   by_cases h4:x=par
   case' pos=>
    have hb4:(x == par)=true:=by simp[h4]
    have HV:=Hq (HBAD (by rw [ah gU,ah Dy];simp[h4]))
    clear HBAD gU Dy h1 h4
    go_wp2_with (go_at_call 128;refine(H1 _).mono ?_;rintro e w1 ⟨rfl,rfl⟩)
    go_ret
    exact⟨aD HV.symm,NK⟩
   have hb4:(x == par)=false:=by simp[h4]
   have HV:=Hq (show iB KB iQ (kids.take (k+1))=true by rw [ah gU,ah Dy];simp[h1,h2,h3,h4]);clear HBAD gU Dy h1;go_wp2_with (go_at_call 128;refine(H1 _).mono ?_;rintro e w1 ⟨rfl,rfl⟩)
   exact ahw):P:=h
theorem aoS.AaP(h:P:=by
 dsimp only at hlo HD xG kR yY HLB UJ lU ⊢;generalize (λs t:Rq=>iQ s.no t.no)=RR at *;cases h1:ru old
 case' false=>
  have HP:=Hq (show TT=false by rw [ah HD,h1];rfl)
  have H1:=Hq (λw1=>kV old false w1 h1)
  clear h1 HD
  go_in
  go_wp2_with (go_at_call 133;refine(H1 _).mono ?_;rintro e w9 ⟨rfl,rfl⟩)
  go_ret
  exact⟨aD HP.symm,au w _⟩
 have H1:=Hq (λw1=>kV old true w1 h1);have hold:0<=old/\old<=1000000000:=of_decide_eq_true h1;obtain⟨ho1,ho2⟩:=hold;by_cases h0:reqs.length<=30
 case' neg=>
  have HP:=Hq (show TT=false by rw [ah HD,decide_eq_false h0];simp)
  have hb0:decide ((30:Int) < reqs.length)=true:=decide_eq_true Aaa
  clear h1 HD
  go_in
  go_wp2_with (go_at_call 133;refine(H1 _).mono ?_;rintro e w9 ⟨rfl,rfl⟩)
  go_ret
  exact⟨aD HP.symm,au w _⟩
 have hb0:decide ((30:Int) < reqs.length)=false:=decide_eq_false Aaa;have lD:Hid (TT=iB KB RR reqs):=by rw [ah HD,h1,decide_eq_true h0];rfl
 clear HD h1;go_in
 go_wp2_with (go_at_call 133;refine(H1 _).mono ?_;rintro e w9 ⟨rfl,rfl⟩)
 go_loopw [3,21] (λlv i wr=>∃(k:Nat) (y:Int),k<=reqs.length/\i= .int .i64 k/\lv= .int .i64 y/\y=xR (λs=>s.no) old (reqs.take k)/\iB KB RR (reqs.take k)=true/\wr.heap[w.heap.size]?=some (.cells (dD ⟨id,par,kids,next,pu,out,seen,old,reqs⟩ ⟨ak,ap,ao,as',ar,ck,cp,co,cs,cr⟩) 30 (0,0))/\aY w wr) (λ_ i _=>reqs.length - (intOf i).toNat)
 case atStart=>exact⟨0,old,Nat.zero_le _,rfl,rfl,rfl,rfl,lU,au w _⟩
 case round=>
  open auH in exact agv):P:=h
theorem aoT.AaP(h:P:=by
 dsimp only at hlo HD xG kR yY HLB UJ Nu lU ⊢;generalize (λs t:lJ=>iQ s.i t.i)=RR at *;by_cases h0:out.length<=40
 case' neg=>
  have HP:=Hq (show TT=false by rw [ah HD,decide_eq_false h0];rfl)
  have hb0:decide ((40:Int) < out.length)=true:=decide_eq_true Aaa
  go_in
  go_wp2_with fail
  go_ret
  exact⟨aD HP.symm,au w _⟩
 have hb0:decide ((40:Int) < out.length)=false:=decide_eq_false Aaa;have lD:Hid (TT=iB KB RR out):=by rw [ah HD,decide_eq_true h0];rfl
 clear HD;go_in
 go_wp2_with fail;go_loopw [3,13] (λlv i wr=>∃(k:Nat) (y:Int),k<=out.length/\i= .int .i64 k/\lv= .int .i64 y/\y=xR (λs=>s.i) 0 (out.take k)/\iB KB RR (out.take k)=true/\wr.heap[w.heap.size]?=some (.cells (dD ⟨id,par,kids,next,pu,out,seen,old,reqs⟩ ⟨ak,ap,ao,as',ar,ck,cp,co,cs,cr⟩) 30 (0,0))/\aY w wr) (λ_ i _=>out.length - (intOf i).toNat)
 case atStart=>exact⟨0,0,Nat.zero_le _,rfl,rfl,rfl,rfl,lU,au w _⟩
 case round=>
  open auG in exact agv):P:=h
theorem aoU.AaP(h:P:=by
 dsimp only at hl HC lU Ro ⊢;clear ha;go_in
 go_wp2_with fail;refine HC.mono ?_;rintro e w1 ⟨v,rfl,hown,hb1⟩;have HB1:=Hq ((au w _).trans (hb1.mono Aac));have HO1:=Hq (GR.own_lower (b':=w.heap.size) hown Aac);obtain⟨c0,c1,_⟩:=nine (ay lU hb1);clear hown hb1 HC;go_upto_if 9 with fail;go_cut [3] (λr wx=>wx.ownsRow w.heap.size 3 1 r NB.length (GR.flat aS NB)/\aY w wx)
 case first=>
  by_cases hp:par= -1
  .have hb:(par != -1)=false:=by simp[hp]
   have HE:=Hq (Ro.1 hp);clear hp;go_wp2_with fail;go_meet
   case rel=>exact⟨by rw [ah HE];exact HO1,HB1⟩
  .have hb:(par != -1)=true:=by simp[hp]
   have HE:=Hq (Ro.2 hp);clear hp;have ho:=ah HO1;go_wp2_with (at_builtin;refine wpList_append_own _ rfl _ _ 24 rfl w.heap.size 3 i0 (.int .i64 0) 1 8 underlying24 hi hz0 hz1 hz2 rfl Aae _ _ _ rfl (ho.alloc _) ⟨w1.heap.size,0,none⟩ 1 1 [.int .i64 par] rfl rfl ?c1 ?c2 ?c3 ?c4 ?c5 ?_)
   case c1=>exact cell_one_new _ _ _
   case c2=>intro u hu;simp at hu;subst hu;rfl
   case c3=>unfold maxLen;omega
   case c4=>omega
   case c5=>have:=HB1.size;simp;omega
   intro v' w6 hown' hgrow _;have vP:=Hq (GR.below_append HB1 HB1.size ho hgrow)
   have HO6:Hid (w6.ownsRow w.heap.size 3 1 v' NB.length (GR.flat aS NB)):=by
    rw [ah HE,GR.flat_append,List.length_append];exact hown'
   clear hgrow ho hown';go_wp2_with fail;go_meet
   case rel=>exact⟨HO6,vP⟩
 case rest=>
  obtain⟨ho,hb⟩:=hcut;have HS:=Hq (aeM w.heap.size _ NB wc hln hb.size ho);have HB2:=Hq hb;clear ho hb c0 c1;go_wp2_with fail;refine HS.mono ?_;rintro e w3 ⟨rfl,ho3,hb3⟩;have Ei:=Hq ho3;have HB3:=Hq (HB2.trans hb3);clear ho3 hb3;go_wp2_with fail;go_ret;exact⟨_,rfl,Ei,HB3⟩):P:=h
theorem aoV.AaP(h:P:=by
 dsimp only at Ob HPU HOT HSE HRE HD lU ⊢;go_in
 go_upto_region 1 with fail;open apA in exact ZW):P:=h
theorem aoW.AaP(h:P:=by
 dsimp only at hls HA HD HSK Ro lU ⊢;go_in
 go_wp2_with fail;refine Ro.mono ?_;rintro e w1 ⟨v,rfl,hown,hb1⟩;have HB1:=Hq ((au w _).trans (hb1.mono Aac));have Bw:=Hq (ay lU hb1);have hFL:=ah yY;subst hFL;obtain⟨fa,fc,rfl,hF⟩:=GR.own_at (enc:=aS) (sz:=1) aR hown;have HF:=Hq hF;obtain⟨c0,c1,c2,c3,c4,c5,c6,c7,c8⟩:=nine Bw;clear hown hb1 Ro lU yY hF;by_cases hlen:seen.length=F.length
 case' neg=>
  have hbn:((seen.length:Int) != (F.length:Int))=true:=Aaf
  have HP:=Hq (show TT=false by
   rw [ah HD,decide_eq_false (show¬seen.map (·.f)=F from λh=>hlen (by rw [<-h,List.length_map]))]
   rfl)
  clear HD
  go_wp2_with fail
  go_ret
  exact⟨aD HP.symm,HB1⟩
 have hbn:((seen.length:Int) != (F.length:Int))=false:=Aaf
 have Ef:=Hq hlen;clear hlen;go_wp2_with fail;go_loopw [17] (λi wr=>∃k:Nat,k<=seen.length/\i= .int .i64 k/\(seen.take k).map (·.f)=F.take k/\(seen.take k).all vO=true/\aY w1 wr) (λi _=>seen.length - (intOf i).toNat)
 case atStart=>exact⟨0,Nat.zero_le _,rfl,rfl,rfl,Below.refl _ _⟩
 case round=>
  obtain⟨k,hk,rfl,hm,hall,hbx⟩:=hrel;have HM:=Hq hm;have mU:=Hq hall;have lU:=Hq hbx;have GL:=Hq (ay Bw hbx);have gI:=Hq (HB1.trans (hbx.mono HB1.size));clear hm hall hbx;by_cases hlt:k < seen.length
  case' neg=>
   have hke:k=seen.length:=Aaa
   subst hke
   have hnlt:decide ((seen.length:Int) < (seen.length:Int))=false:=Aac
   have HP:=Hq (show TT=true by
    have h1:=ah HM
    have h2:=ah mU
    rw [List.take_length] at h1 h2
    rw [ah Ef,List.take_length] at h1
    rw [ah HD,decide_eq_true h1,h2]
    rfl)
   go_wp2_with fail
   go_ret
   exact⟨aD HP.symm,gI⟩
  have aBo:k < F.length:=by rw [<-ah Ef];exact hlt
  obtain⟨g,off,b,c,e0,hgw,q0,q1,q2,hI⟩:=mW.below (bQ.s HA) gI k hlt;obtain⟨g2,off2,e2,ajy,p0⟩:=dX.one (GR.At.below HF lU) k aBo;(try dsimp only at e0 q0 q1 q2 hI)
  subst e0 e2;have Ie:=ah HSK _ (List.getElem_mem hlt);have HI:=Hq hI;have HST:=Hq (λh3 h4=>Yo hlt Ef.symm HM mU h3 h4);have GU:=Hq (λh3=>Ym (F:=F) hlt Ef.symm h3);have HX2:=Hq (λh4=>Yn hlt h4);clear hI;generalize seen[k]=sk at *;generalize F[k]=y at *;obtain⟨fr,lo,ids⟩:=sk;dsimp only at q0 q1 q2 HI Ie HST GU HX2;go_upto_region 7 with fail;open auA in exact ags):P:=h
theorem aoX.AaP(h:P:=by
 go_upto_region 3 with fail;refine wp_at (λW2 hW2=>?_);have hbw:aY w2 W2:=by rw [hW2];exact au w2 _
 have hO:W2.heap[w2.heap.size]?=some (.cells (gH id par ak kids.length ck next ap pu.length cp ao out.length co as' seen.length cs old ar reqs.length cr) 30 (0,0)):=by rw [hW2];exact heap_alloc_new _ _
 have aCe:=aA hO;have hC2:=hc2.keep_below hbw;have HO:=Hq hO;have iA:=Hq hbw;have HR3:=Hq (ay HR2 hbw);clear hW2 hbw hO HR2 hc2;refine wp_region_any Aab ?_;show wpAny _ _ _ _ 5 (Array.replicate 5 false) _ _
 refine EA (λY hY=>?_);have HOY:=Hq (ay HO hY);have Hg:=Hq (ay HR3 hY);have HCY:=Hq (hC2.keep_below hY);have yX:=Hq (iA.trans (hY.mono iA.size));clear hY HO HR3 hC2 iA;obtain⟨d0,d1,d2,d3,d4,d5,d6,d7,d8⟩:=nine HOY;refine bZ 1 rfl Aab Aab Aab (λ_ _ _ _ h=>h) (λK hK=>?_);go_simp
 first
  |(refine hK _ ?_;clear hK K)
  |(apply Exists.intro
    refine⟨λ_=>rfl,hK _ ?_⟩
    clear hK K)
 refine qX 0 2 rfl rfl Aab Aad Aad ?_ ?_
 .go_simp;refine aF 2 rfl Aab Aad ?_;open apo in exact awS
 .open apn in exact awS):P:=h
theorem aoY.AaP(h:P:=by
 obtain⟨bk,bp,bo,bs,br,dk,dp,do',ds,dr⟩:=B;dsimp only at hzo hzs hzr;have HA:Hid (W.heap[w.heap.size]?=some (.cells (gH id par ak kids.length ck next ap pu.length cp ao out.length co as' seen.length cs old ar reqs.length cr) 30 (0,0))):=HA;have HB:Hid (W.heap[w.heap.size+1]?=some (.cells (gH id par bk kids.length dk next bp pu.length dp bo out.length do' bs seen.length ds old br reqs.length dr) 30 (0,0))):=HB;obtain⟨c0,c1,c2,c3,c4,c5,c6,c7,c8⟩:=nine HA;obtain⟨e0,e1,e2,e3,e4,e5,e6,e7,e8⟩:=nine HB;go_in
 go_upto_region 1 with fail;clear hW;go_wp2_with fail;refine(HSI ak bk ck dk kids W HZ.k KO.k Ro.k).mono ?_;rintro e w1 ⟨rfl,hb1⟩;have xB:=Hq (Rv ap bp cp dp pu w1 HZ.p (GR.At.below KO.p hb1) (GR.At.below Ro.p hb1));have HB1:=Hq hb1;have HA1:=Hq (ay HA hb1);have xE:=Hq (ay HB hb1);clear hb1 c0 c1 c2 c3 c4 c5 c6 c7 c8 e0 e1 e2 e3 e4 e5 e6 e7 e8;obtain⟨c0,c1,c2,c3,c4,c5,c6,c7,c8⟩:=nine HA1;obtain⟨e0,e1,e2,e3,e4,e5,e6,e7,e8⟩:=nine xE;go_wp2_with fail;refine xB.mono ?_;rintro e w2 ⟨rfl,hb2⟩;have HB2:=Hq (HB1.trans (hb2.mono HB1.size));have HA2:=Hq (ay HA1 hb2);have oI:=Hq (ay xE hb2);clear hb2 xB HB1 HA1 xE c0 c1 c2 c3 c4 c5 c6 c7 c8 e0 e1 e2 e3 e4 e5 e6 e7 e8;have HO2:=Hq (GR.At.below KO.o HB2);have akP:=Hq (GR.At.below Ro.o HB2);obtain⟨c0,c1,c2,c3,c4,c5,c6,c7,c8⟩:=nine HA2;obtain⟨e0,e1,e2,e3,e4,e5,e6,e7,e8⟩:=nine oI;go_wp2_with fail;go_loopw [5] (λi wr=>∃k q:Nat,k<=out.length/\i= .int .i64 k/\wr=w2.drewN q) (λi _=>out.length - (intOf i).toNat)
 case atStart=>exact⟨0,0,Nat.zero_le _,rfl,rfl⟩
 case round=>
  obtain⟨k,q,hk,rfl,rfl⟩:=hrel;by_cases hlt:k < out.length
  .obtain⟨g1,o1,rfl,hg1,s0,s1,s2,s3⟩:=SentAt.four HO2 k hlt;obtain⟨g2,o2,rfl,hg2,t0,t1,t2,t3⟩:=SentAt.four akP k hlt;generalize out[k]=x at *;obtain⟨xi,xt,xk,xn⟩:=x;exact aaM
  .open aoa in exact aax):P:=h
theorem aiW(h:P:=by
 have Hr:=Hq (GR.own_below Ho H6);have KJ:=Hq (show∀b,((.slice (some ⟨x1.heap.size,0,none⟩) 0 0:Value)).ownBlock=some b->b≠x2.heap.size from λb hb=>by have:=(Ho.lt b hb).2;omega);have KN:=Hq (vT.trans (H6.mono vT.size));clear H6;exact AcE):P:=h
theorem aoZ.AcE(h:P:=by
 generalize Xu:x2.alloc (.cells (eG no k nn 0) 97)=y2 at *;open alS in exact awh):P:=h
theorem ao0.AcE(h:P:=by
 generalize Xu:x2.alloc (.cells (eG no k nn 1) 97)=y2 at *;open alT in exact awh):P:=h
theorem ao1.AcE(h:P:=by
 generalize Xu:x2.alloc (.cells #[.int .i64 mI] 3)=y2 at *;open asR in exact af2):P:=h
theorem awI(h:P:=by
 go_upto_region 9 with fail;refine Fo.wp_at (λV hV=>?_);have Bj:w.heap.size < V.heap.size:=by rw [hV];exact Fo.lt_of_blk xB
 have vS:=Hq (show aY w V by rw [hV];exact HB1.trans ⟨rfl,rfl,rfl,Nat.le_refl _,λ_ _=>rfl⟩);have hblk:V.heap[w.heap.size]?=some (.cells (iM pk pm pf ps) 143 (0,0)):=by rw [hV];exact xB
 exact AdU):P:=h
theorem ao2.AdU(h:P:=by
 have HTA:=Hq (show aI V (some ad') (lu l pk) by rw [hV];exact hta);obtain⟨⟨c0,c1,c2,c3⟩,_⟩:=gG hblk;have GZ:=Hq (λX (hb:aY V X)=>aI.news (GR.At.below HTA hb));have CQ:=Hq (λX (hb:aY V X)=>zR (some ⟨b,off,none⟩) cap (l.take (place l pk)) X Aaa (λh=>Aar) (GR.At.below (ada (GR.At.below HA vS) _) hb));have VY:=Hq (λX (hb:aY w X)=>zR (some ⟨b,off,none⟩) cap l X Aaa (λh=>Aar) (GR.At.below HA hb));have HPF:=Hq hpf;have HPN:=Hq hpn;rw [htl] at CQ;have hnw:w.heap.size≠V.heap.size:=Aaa
 have hmw:V.heap.size≠w.heap.size:=Aaa
 have aB7:(lu l pk).length<=20:=by
  have h3:=tail_len l pk;omega
 clear hV hblk hta hp0 lD xB htl hAd hAe hpf hpn
 go_region_held_law (λw'=>w'.cell? ⟨w.heap.size,0,none⟩=some (.string pk)/\w'.cell? ⟨w.heap.size,1,none⟩=some (.int .i64 pm)/\w'.cell? ⟨w.heap.size,2,none⟩=some (.int .i64 pf)/\w'.cell? ⟨w.heap.size,3,none⟩=some (.int .i64 ps)) (go_keep)
  (first
   |((go_at_call 114);(refine(CQ _ (by exact⟨rfl,rfl,rfl,Aac,λk hk=>by first|rfl|exact Below.heap_alloc _ _ _ hk⟩)).mono ?_);(rintro e w4 ⟨vc,rfl,hv4,vD,hb4⟩);(have hs4:=hb4.size);(try simp at hs4);(have lI:=Hq (show aY V w4 from Below.trans (b:=_) (by exact⟨rfl,rfl,rfl,Aac,λk hk=>by first|rfl|exact Below.heap_alloc _ _ _ hk⟩) (hb4.mono Aac)));(have Nv:=Hq (own_lower (b':=V.heap.size) vD Aac));(first|(guard_hyp hs4:V.heap.size+1<=w4.heap.size;have Wl:=Hq (Fo.one_block (show Below (V.alloc (.cells (iM pk pm pf ps) 143)).heap.size (V.alloc (.cells (iM pk pm pf ps) 143)) w4 from⟨hb4.os,hb4.tape,hb4.output,hb4.size,hb4.block⟩)).1)|skip);(have d0:=(lI.cell (p:=⟨w.heap.size,0,none⟩) Bj).trans c0);(have d1:=(lI.cell (p:=⟨w.heap.size,1,none⟩) Bj).trans c1);(have d2:=(lI.cell (p:=⟨w.heap.size,2,none⟩) Bj).trans c2);(have d3:=(lI.cell (p:=⟨w.heap.size,3,none⟩) Bj).trans c3);(have hn4:w.heap.size≠w4.heap.size:=by omega);(have hm4:w4.heap.size≠w.heap.size:=by omega);(clear hb4 vD hv4))
   |((guard_hyp hs4:V.heap.size+1<=w4.heap.size);(refine jQ _ rfl (.tmp 57) (.tmp 59) 25 rfl V.heap.size 143 i0 (.agg (iM ByteArray.empty 0 0 0)) 4 40 underlying25 hi hz0 hz1 hz2 rfl Aae vc (place l pk) (GR.flat fH (l.take (place l pk))) Aaj Nv ⟨V.heap.size,0,none⟩ 1 1 (fH ⟨pk,pm,pf,ps⟩) Aaj rfl (World.news_of_block Wl) (wM ⟨pk,pm,pf,ps⟩) Aah Aaa lI.size ?_);(intro v5 w5 hown5 hgr5 qG);(have xA:=Hq hown5);(have HV5:=Hq (show v5≠ .slice none 0 0 by first|exact qG|exact λh=>absurd (qG.1 h).2 Aae));(have iX:=Hq (show aY V w5 from lI.trans (mZ hgr5 (λk e=>(Nv.lt k e).1) lI.size)));(have e0:=(iX.cell (p:=⟨w.heap.size,0,none⟩) Bj).trans c0);(have e1:=(iX.cell (p:=⟨w.heap.size,1,none⟩) Bj).trans c1);(have e2:=(iX.cell (p:=⟨w.heap.size,2,none⟩) Bj).trans c2);(have e3:=(iX.cell (p:=⟨w.heap.size,3,none⟩) Bj).trans c3);(clear hown5 hgr5 qG))
   |((guard_hyp hs4:V.heap.size<=w4.heap.size);(refine jQ _ rfl (.tmp 57) (.tmp 59) 25 rfl V.heap.size 143 i0 (.agg (iM ByteArray.empty 0 0 0)) 4 40 underlying25 hi hz0 hz1 hz2 rfl Aae vc (place l pk) (GR.flat fH (l.take (place l pk))) Aaj (Nv.alloc _) ⟨w4.heap.size,0,none⟩ 1 1 (fH ⟨pk,pm,pf,ps⟩) Aaj rfl (World.news_of_block (heap_alloc_new w4 _)) (wM ⟨pk,pm,pf,ps⟩) Aah Aaa (Nat.le_trans lI.size Aac) ?_);(intro v5 w5 hown5 hgr5 qG);(have xA:=Hq hown5);(have HV5:=Hq (show v5≠ .slice none 0 0 by first|exact qG|exact λh=>absurd (qG.1 h).2 Aae));(have iX:=Hq (show aY V w5 from(lI.alloc lI.size _).trans (mZ hgr5 (λk e=>(Nv.lt k e).1) (Nat.le_trans lI.size Aac))));(have e0:=(iX.cell (p:=⟨w.heap.size,0,none⟩) Bj).trans c0);(have e1:=(iX.cell (p:=⟨w.heap.size,1,none⟩) Bj).trans c1);(have e2:=(iX.cell (p:=⟨w.heap.size,2,none⟩) Bj).trans c2);(have e3:=(iX.cell (p:=⟨w.heap.size,3,none⟩) Bj).trans c3);(clear hown5 hgr5 qG))
   |((refine jQ _ rfl (.tmp 60) (.tmp 61) 25 rfl V.heap.size 143 i0 (.agg (iM ByteArray.empty 0 0 0)) 4 40 underlying25 hi hz0 hz1 hz2 rfl Aae v5 (place l pk+1) (GR.flat fH (l.take (place l pk))++fH ⟨pk,pm,pf,ps⟩) Abm xA ad' (lu l pk).length cc (GR.flat fH (lu l pk)) Abm (GR.flat_length fH 4 aX _) (GZ _ iX) (zF _) Aah Aaa iX.size ?_);(intro v6 w6 hown6 rA Pj);(have vP:=Hq (show aY V w6 from iX.trans (mZ rA (λk e=>(xA.lt k e).1) iX.size)));(have HV6:=Hq (show v6≠ .slice none 0 0 by first|exact λh=>HV5 (Pj.1 h).1|exact λh=>HV5 (Pj h).1));(rw [ah HPF,ah HPN] at hown6);(obtain⟨a6,cap6,rfl,abn⟩:=GR.own_at aX hown6);(have HO6:=Hq hown6);(have HT6:=Hq abn);(have f0:=(vP.cell (p:=⟨w.heap.size,0,none⟩) Bj).trans c0);(have f1:=(vP.cell (p:=⟨w.heap.size,1,none⟩) Bj).trans c1);(have f2:=(vP.cell (p:=⟨w.heap.size,2,none⟩) Bj).trans c2);(have f3:=(vP.cell (p:=⟨w.heap.size,3,none⟩) Bj).trans c3);(clear hown6 rA Pj abn))
   |fail)
 all_goals
  have ah9:(jq l ⟨pk,pm,pf,ps⟩).length<=1048600:=by have:=ah HPN;omega
  have Zd:=Hq (vS.trans (vP.mono Aaa))
  have EK:=Hq (kZ a6 cap6 (jq l ⟨pk,pm,pf,ps⟩) w6 ah9 hkt HT6)
  clear ah9 d0 d1 d2 d3 e0 e1 e2 e3 f0 f1 f2 f3 c0 c1 c2 c3 GZ CQ
  go_wp2_with fail
  refine EK.mono ?_
  rintro e w7 ⟨rfl,qE⟩
  have ze:=Hq (Zd.trans (qE.mono Zd.size))
  have HO7:=Hq (own_lower (b':=w.heap.size) (HO6.kept (row:=none) ⟨qE.os,qE.tape,qE.output,qE.size,λk hk _=>qE.block k hk⟩ (Ql _)) Aaa)
  clear qE EK
  cases hps:jo (jq l ⟨pk,pm,pf,ps⟩)
  .have HWF:=Hq (show rP l ⟨pk,pm,pf,ps⟩ n=(l,false) by rw [ah HW,hps];rfl);have HCX:=Hq (VY _ ze);clear hps HW VY;go_wp2_with fail;refine HCX.mono ?_;rintro e w8 ⟨v8,rfl,hv8,CY,Ep⟩;have HV8:=Hq hv8;have HO8:=Hq (own_lower (b':=w.heap.size) CY ze.size);have GY:=Hq (ze.trans (Ep.mono ze.size));clear CY Ep hv8;go_wp2_with fail;rw [ah HWF];exact bodyPost_ret (v:= .tuple #[v8,.bool false]) Acb rfl ⟨v8,rfl,HV8,HO8,GY⟩
  .have HWF:=Hq (show rP l ⟨pk,pm,pf,ps⟩ n=(jq l ⟨pk,pm,pf,ps⟩,true) by rw [ah HW,hps];rfl);clear hps HW VY;go_wp2_with fail;rw [ah HWF];exact bodyPost_ret (v:= .tuple #[.slice a6 (jq l ⟨pk,pm,pf,ps⟩).length cap6,.bool true]) Acb rfl ⟨_,rfl,HV6,HO7,ze⟩):P:=h
theorem ao3.AdU(h:P:=by
 obtain⟨⟨c0,c1,c2,c3⟩,_⟩:=gG hblk;have CQ:=Hq (λX (hb:aY V X)=>zR none 0 [] X Aac (λ_=>⟨rfl,rfl⟩) (GR.at_nil _ _));have VY:=Hq (λX=>zR none 0 [] X Aac (λ_=>⟨rfl,rfl⟩) (GR.at_nil _ _));have hnw:w.heap.size≠V.heap.size:=Aaa
 have hmw:V.heap.size≠w.heap.size:=Aaa
 clear hV hblk hp0 lD xB
 go_region_held_law (λw'=>w'.cell? ⟨w.heap.size,0,none⟩=some (.string pk)/\w'.cell? ⟨w.heap.size,1,none⟩=some (.int .i64 pm)/\w'.cell? ⟨w.heap.size,2,none⟩=some (.int .i64 pf)/\w'.cell? ⟨w.heap.size,3,none⟩=some (.int .i64 ps)) (go_keep)
  (first
   |((go_at_call 114);(refine(CQ _ (by exact⟨rfl,rfl,rfl,Aac,λk hk=>by first|rfl|exact Below.heap_alloc _ _ _ hk⟩)).mono ?_);(rintro e w4 ⟨vc,rfl,hv4,vD,hb4⟩);(have hs4:=hb4.size);(try simp at hs4);(have lI:=Hq (show aY V w4 from Below.trans (b:=_) (by exact⟨rfl,rfl,rfl,Aac,λk hk=>by first|rfl|exact Below.heap_alloc _ _ _ hk⟩) (hb4.mono Aac)));(have Nv:=Hq (own_lower (b':=V.heap.size) vD Aac));(first|(guard_hyp hs4:V.heap.size+1<=w4.heap.size;have Wl:=Hq (Fo.one_block (show Below (V.alloc (.cells (iM pk pm pf ps) 143)).heap.size (V.alloc (.cells (iM pk pm pf ps) 143)) w4 from⟨hb4.os,hb4.tape,hb4.output,hb4.size,hb4.block⟩)).1)|skip);(have d0:=(lI.cell (p:=⟨w.heap.size,0,none⟩) Bj).trans c0);(have d1:=(lI.cell (p:=⟨w.heap.size,1,none⟩) Bj).trans c1);(have d2:=(lI.cell (p:=⟨w.heap.size,2,none⟩) Bj).trans c2);(have d3:=(lI.cell (p:=⟨w.heap.size,3,none⟩) Bj).trans c3);(have hn4:w.heap.size≠w4.heap.size:=by omega);(have hm4:w4.heap.size≠w.heap.size:=by omega);(clear hb4 vD hv4))
   |((guard_hyp hs4:V.heap.size+1<=w4.heap.size);(refine jQ _ rfl (.tmp 57) (.tmp 59) 25 rfl V.heap.size 143 i0 (.agg (iM ByteArray.empty 0 0 0)) 4 40 underlying25 hi hz0 hz1 hz2 rfl Aae vc 0 [] Aaj Nv ⟨V.heap.size,0,none⟩ 1 1 (fH ⟨pk,pm,pf,ps⟩) Aaj rfl (World.news_of_block Wl) (wM ⟨pk,pm,pf,ps⟩) Aah Aaa lI.size ?_);(intro v5 w5 hown5 hgr5 qG);(have xA:=Hq hown5);(have HV5:=Hq (show v5≠ .slice none 0 0 by first|exact qG|exact λh=>absurd (qG.1 h).2 Aae));(have iX:=Hq (show aY V w5 from lI.trans (mZ hgr5 (λk e=>(Nv.lt k e).1) lI.size)));(have e0:=(iX.cell (p:=⟨w.heap.size,0,none⟩) Bj).trans c0);(have e1:=(iX.cell (p:=⟨w.heap.size,1,none⟩) Bj).trans c1);(have e2:=(iX.cell (p:=⟨w.heap.size,2,none⟩) Bj).trans c2);(have e3:=(iX.cell (p:=⟨w.heap.size,3,none⟩) Bj).trans c3);(clear hown5 hgr5 qG))
   |((guard_hyp hs4:V.heap.size<=w4.heap.size);(refine jQ _ rfl (.tmp 57) (.tmp 59) 25 rfl V.heap.size 143 i0 (.agg (iM ByteArray.empty 0 0 0)) 4 40 underlying25 hi hz0 hz1 hz2 rfl Aae vc 0 [] Aaj (Nv.alloc _) ⟨w4.heap.size,0,none⟩ 1 1 (fH ⟨pk,pm,pf,ps⟩) Aaj rfl (World.news_of_block (heap_alloc_new w4 _)) (wM ⟨pk,pm,pf,ps⟩) Aah Aaa (Nat.le_trans lI.size Aac) ?_);(intro v5 w5 hown5 hgr5 qG);(have xA:=Hq hown5);(have HV5:=Hq (show v5≠ .slice none 0 0 by first|exact qG|exact λh=>absurd (qG.1 h).2 Aae));(have iX:=Hq (show aY V w5 from(lI.alloc lI.size _).trans (mZ hgr5 (λk e=>(Nv.lt k e).1) (Nat.le_trans lI.size Aac))));(have e0:=(iX.cell (p:=⟨w.heap.size,0,none⟩) Bj).trans c0);(have e1:=(iX.cell (p:=⟨w.heap.size,1,none⟩) Bj).trans c1);(have e2:=(iX.cell (p:=⟨w.heap.size,2,none⟩) Bj).trans c2);(have e3:=(iX.cell (p:=⟨w.heap.size,3,none⟩) Bj).trans c3);(clear hown5 hgr5 qG))
   |((refine CJ _ rfl (.tmp 60) (.tmp 61) 25 rfl V.heap.size 143 i0 4 underlying25 hi v5 (0+1) ([]++fH ⟨pk,pm,pf,ps⟩) Abm xA none 0 Abm ?_);(have hown6:w5.ownsRow V.heap.size 143 4 v5 [(⟨pk,pm,pf,ps⟩:Pu)].length (GR.flat fH [(⟨pk,pm,pf,ps⟩:Pu)]):=(by rw [GR.flat_one];exact xA));(obtain⟨a6,cap6,rfl,abn⟩:=GR.own_at aX hown6);(have HO6:=Hq hown6);(have HT6:=Hq abn);(clear hown6 abn))
   |fail)
 all_goals
  have Zd:=Hq (vS.trans (iX.mono Aaa))
  have EK:=Hq (kZ a6 cap6 [(⟨pk,pm,pf,ps⟩:Pu)] w5 Aac (λq hq=>by rw [List.mem_singleton] at hq;subst hq;show pk.size<=maxLen;unfold maxLen;omega) HT6)
  clear d0 d1 d2 d3 e0 e1 e2 e3 c0 c1 c2 c3 CQ
  go_wp2_with fail
  refine EK.mono ?_
  rintro e w7 ⟨rfl,qE⟩
  have ze:=Hq (Zd.trans (qE.mono Zd.size))
  have HO7:=Hq (own_lower (b':=w.heap.size) (HO6.kept (row:=none) ⟨qE.os,qE.tape,qE.output,qE.size,λk hk _=>qE.block k hk⟩ (Ql _)) Aaa)
  clear qE EK
  cases hps:jo [(⟨pk,pm,pf,ps⟩:Pu)]
  .have HCX:=Hq (VY w7);clear hps VY;go_wp2_with fail;refine HCX.mono ?_;rintro e w8 ⟨v8,rfl,hv8,CY,Ep⟩;have HO8:=Hq (own_lower (b':=w.heap.size) CY ze.size);have GY:=Hq (ze.trans (Ep.mono ze.size));clear CY Ep hv8;go_wp2_with fail;exact bodyPost_ret (v:= .tuple #[v8,.bool false]) Acb rfl ⟨v8,[],false,rfl,Aac,(λ_ h=>Aar),HO8,GY⟩
  .clear hps VY;go_wp2_with fail;exact bodyPost_ret (v:= .tuple #[.slice a6 1 cap6,.bool true]) Acb rfl ⟨_,[(⟨pk,pm,pf,ps⟩:Pu)],true,rfl,Aac,(λq hq=>by rw [List.mem_singleton] at hq;subst hq;exact hpk),HO7,ze⟩):P:=h
theorem awJ(h:P:=by
 go_wp2_with fail;refine(kR X A1 HPR.1 BA.at.p).mono ?_;rintro e W5 ⟨v,rfl,_,hown,hb5⟩;obtain⟨pa,pc,rfl,_⟩:=GR.own_at (enc:=fH) aX hown;have mV:=Hq (ay gU hb5);have jV:=Hq (ay qZ hb5);have vP:=Hq (lU.trans (hb5.mono lU.size));have RZ:=Hq (BA.kc (k:=9) (KC.of_below hb5) Aaa);have Ej:=Hq hown;have hxr:=aA qZ;clear hown hb5 c0 c1 c2 c3 c4 c5 c6 c7 c8 p0 p1 p2 p3 p4 p5 p6 p7 p8 p9 oD hnl hol kR gU HOX qZ BA HPR lU;obtain⟨c0,c1,c2,c3,c4,c5,c6,c7,c8⟩:=nine mV;have hnl:=aA mV;exact Ae1):P:=h
theorem ao4.Ae1(h:P:=by
 have f4:=aj mV 4;go_upto_region 11 with fail;refine wp_at (λY hY=>?_)
 have hky:aC [w.heap.size] W5 Y:=by
  rw [hY];exact aC.set _
 have qB:Hid (Y.heap[w.heap.size]?=some (.cells (gH n.id n.par A1.k n.kids.length A1.ck n.next pa RL.length pc A1.o n.out.length A1.co A1.s n.seen.length A1.cs n.old A1.r n.reqs.length A1.cr) 30 (0,0))):=by
  rw [hY];exact aT mV 4 (.slice pa RL.length pc)
 have nT:=Hq (hky.obj jV Aac);have ze:=Hq (vP.trans (hky.below (B:=w.heap.size) (λx hx=>by have:x=w.heap.size:=Aag;omega) vP.size));have ayS:=Hq (RZ.kc (k:=9) (KC.keeps hky (λx hx=>by have:x=w.heap.size:=Aag;rw [this];exact CQ)) Aaa);have ayX:=Hq (dG Ej hky (λx hx=>by have:x=w.heap.size:=Aag;omega));clear hY hky f4 c0 c1 c2 c3 c4 c5 c6 c7 c8 hnl mV jV vP RZ Ej;obtain⟨c0,c1,c2,c3,c4,c5,c6,c7,c8⟩:=nine qB;have hnl:=aA qB;open asM in exact afZ):P:=h
theorem ao5.Ae1(h:P:=by
 go_upto_region 9 with fail;open arA in exact afE):P:=h
theorem awK(h:P:=by
 have HAT:=Hq (λW'' (ho:Out c w W' W'')=>(yZ.kc (k:=9) ((KC.keeps gL (λx hx=>by have:x=w.heap.size+1:=Aag;rw [this];exact aZ Aaa)).trans (KC.out H9 ho)) Aaa).rm);have nO:Hid (Below B w W'):=(HB1.mono hB).trans (gL.below (λx hx=>by have:x=w.heap.size+1:=Aag;omega) (Nat.le_trans hB (HB1.mono hB).size));have tZ:=Hq (Apart.keeps (c:=c) (Apart.of_below (HB1)) (HB1.mono hB).size gL (λx hx=>by have:x=w.heap.size+1:=Aag;omega));obtain⟨x0,x1,x2,x3,x4,x5,x6,x7,x8⟩:=nine e4;exact AdC):P:=h
theorem ao6.AdC(h:P:=by
 clear hW' e4 gL;exact bodyPost_ret (v:= .tuple #[(fT n A),.int .i64 1]) Abw rfl ⟨A,rfl,HAT,nO,tZ⟩):P:=h
theorem ao7.AdC(h:P:=by
 exact AaF):P:=h
theorem awL(h:P:=by
 go_in
 go_wp2_with fail;refine HOF.mono ?_;rintro e w1 ⟨mp,mb,v,rfl,Ce,hb1⟩;obtain⟨hblk,hlt1,hbw⟩:=Fo.one_block hb1;have HB1:=Hq hbw;have c0:w1.cell? ⟨w.heap.size,0,none⟩=some (.int .i64 dm):=by rw [cell_of_row w1 _ _ _ _ (0,0) hblk];rfl
 have c1:w1.cell? ⟨w.heap.size,1,none⟩=some (.int .i64 df):=by rw [cell_of_row w1 _ _ _ _ (0,0) hblk];rfl
 have c2:w1.cell? ⟨w.heap.size,2,none⟩=some (.int .i64 ds):=by rw [cell_of_row w1 _ _ _ _ (0,0) hblk];rfl
 exact Afd):P:=h
theorem ao8.Afd(h:P:=by
 have HMX:=Hq (YQ _ mp mb _ v w1 hb1.size Aah Ce (HE.below hbw));clear hb1 Ce HOF hblk hbw YQ;go_wp2_with (first|(go_at_call 131;refine(HK _).mono ?_;rintro e w2 ⟨rfl,rfl⟩)|(go_at_call 54;refine(GK _).mono ?_;rintro e w2 ⟨rfl,rfl⟩))
 refine HMX.mono ?_;rintro e w3 ⟨hb3,hcase⟩;have HB3:=Hq (HB1.trans (Below.mono hb3 Aac));clear hb3 HMX;rcases hcase with⟨hf,h20,rfl⟩|⟨hf,rfl,v',ax0⟩
 .have HAD:=Hq (Zh hf h20);clear hf h20 Zh Zz;go_wp2_with fail;go_ret2
  exact⟨HB3,.inl ⟨HAD,_,Aaa,rfl⟩⟩
 .obtain⟨hadd,hlen⟩:=ah Zz hf;have adb:=Hq hadd;have yY:=Hq (abL _ mp mb _ v' PL G2 w3 hlen HPA xL ax0);clear hf Zh Zz hadd ax0;go_wp2_with fail;refine yY.mono ?_;rintro e w4 ⟨rfl,ah6,hb4⟩;have lI:=Hq (HB3.trans (hb4.mono HB3.size));have HK4:=Hq ah6;clear hb4 ah6;go_wp2_with fail;go_ret2
  rw [ah adb];exact⟨lI,.inr ⟨rfl,_,HB3.size,rfl,HK4⟩⟩):P:=h
theorem ao9.Afd(h:P:=by
 have HMX:=Hq (YQ _ mp mb _ v w1 Ce (HE.below hbw));clear hb1 Ce HOF hblk hbw YQ;go_wp2_with (first|(go_at_call 131;refine(HK _).mono ?_;rintro e w2 ⟨rfl,rfl⟩)|(go_at_call 54;refine(GK _).mono ?_;rintro e w2 ⟨rfl,rfl⟩)|(go_at_call 248;refine HMX.mono ?_;rintro e w3 ⟨i,hi,rfl,hb3⟩))
 go_ret2
 exact⟨HB1.trans (hb3.mono HB1.size),.inl ⟨HAD,i,hi,rfl⟩⟩):P:=h
theorem awM(h:P:=by
 obtain⟨c0,c1,c2,c3,c4,c5,c6,c7,c8⟩:=nine hblk;have hql:=aA hblk;clear hblk hNL hbx HS Oo u0 u1 u2 u3 u4 u5 u6 u7 u8 x0 x1 x2 x3 x4 x5 x6 x7 x8 x9 x10;obtain⟨d0,d1,d2,d3,d4,d5,d6,d7,d8⟩:=nine HS2.blk;have f0:=aj HS2.blk 0;have f1:=aj HS2.blk 1;have f2:=aj HS2.blk 2;have f3:=aj HS2.blk 3;have f4:=aj HS2.blk 4;have f5:=aj HS2.blk 5;have f6:=aj HS2.blk 6;have f7:=aj HS2.blk 7;have f8:=aj HS2.blk 8;have hnl:=aA HS2.blk;go_wp2_with fail;exact Afm):P:=h
theorem apa.Afm(h:P:=by
 go_roundw
 case rel=>exact⟨k+1,Aaa,Aai,A3,by rw [ah HPk];exact HS2.put UL⟩
 case measure=>simp[intOf];omega):P:=h
theorem apb.Afm(h:P:=by
 go_roundw
 case rel=>exact⟨k+1,Aaa,Aai,A3,by rw [ah HPk];exact HS2.put hB UL⟩
 case measure=>simp[intOf];omega):P:=h
theorem awN(h:P:=by
 open atW in exact agj):P:=h
theorem apc.Afo(h:P:=by
 have r1:=cell_regrown q1;have r2:=cell_regrown q2;have r3:=cell_regrown q3;have e4:=cell_regrown d4;refine bV 23 Aab ?_;show fD _ _ _ _ _ 25 (Array.replicate 25 false) _ _
 refine tk [0,1,2,3,4,5,6,7,8,9,10,11,12,13,14,15,16,17,18,19] ?_;iterate 20 (refine su (λK hK=>?_);go_simp;refine hK _ ?_;clear hK K)
 refine jc ?_;clear r1 r2 r3 e4;refine dM 20 rfl Aab Aad (λx hx=>?_);go_simp;have HX:=Hq (HZ1.step hx);refine(HUN x HX).mono ?_;rintro e y ⟨a,cp,g5,hg5,rfl,hp,hby⟩;refine⟨hby,?_⟩;have HST:=Hq (λu (hu:Ge y u)=>aeL (cp:=cp) HX (hby.trans (hu.mono hby.size)) hg5 (hp.below hu));clear hby hg5 hp HUN hx;refine tk [21,22] ?_;iterate 2 (refine su (λK hK=>?_);go_simp;refine hK _ ?_;clear hK K)
 refine jc ?_;refine bf Aab (λu hu=>?_);refine aF 23 rfl Aab Aad ?_;go_simp;refine(HST u hu).mono ?_;rintro e z2 ⟨rfl,A',G',c',hZ2,hA2⟩;have HZ2:=Hq hZ2;have HA2:=Hq (hA2.trans hAr);clear hZ2 HST hu hA2 d0 d1 d2 d3 d4 d5 d6 d7 d8 d9 q0 q1 q2 q3 qf;obtain⟨rl,rb⟩:=r;dsimp only at HZ2 ⊢;refine aF 24 rfl Aab Aad ?_;go_simp;refine wpAny_done Aab ?_;go_simp;cases rb
 .rw [if_neg Aac] at HZ2;obtain⟨g6,hA6,_,hg6,⟨s0,s1,s2,s3⟩,sf⟩:=HZ2.reqRow i hil;rw [ah HA2] at hA6;cases hA6
  rw [hs] at s3;go_wp2_with fail;go_ret;exact⟨rfl,A',G',c',HZ2⟩
 .rw [if_pos rfl] at HZ2;obtain⟨g6,hA6,_,hg6,⟨s0,s1,s2,s3⟩,sf⟩:=HZ2.reqRow i hil;rw [ah HA2] at hA6;cases hA6
  have Dv:=Hq (HZ2.reqSet i hil g HA2);clear HZ2 HZ1 HX HW;go_wp2_with fail;go_ret;exact⟨rfl,A',G',c',Dv⟩):P:=h
theorem apd.Afo(h:P:=by
 have r3:=cell_regrown q3;refine dz Aab ?_;show iL _ _ _ _ 25 (Array.replicate 25 false) _ _
 refine tk [0,1,2,3,4,5,6,7,8,9,10,11,12,13,14,15,16,17,18,19,20,21,22,23,24] ?_;iterate 25 (refine vJ (λK hK=>?_);go_simp;refine hK _ ?_;clear hK K)
 refine jc ?_;refine fE Aab (λx hx=>?_);have HX:=Hq (HZ1.step hx);have x3:=(CS hx).1 g (i*4+3) hgl;clear hx r3;go_simp;go_wp2_with fail;go_ret;exact⟨rfl,A,G,c,HX⟩):P:=h
theorem awO(h:P:=by
 rw [<-hW] at e1 e2 e3;have HN:=Hq e1;have HR:=Hq e2;have HB0:=Hq e3;have Jv:=Hq (kS.kc (k:=9) (KC.of_below e3) Aaa);clear hW e1 e2 e3 kS hbw0;obtain⟨c0,c1,c2,c3,c4,c5,c6,c7,c8⟩:=nine HN;have hnl:=aA HN;go_wp2_with fail;refine(Ej W0 Jv.at.p).mono ?_;open avq in exact agN):P:=h
theorem ape.AeG(h:P:=by
 have HI:=Hq (And.intro hi (And.intro hz0 (And.intro hz1 hz2)));clear hi hz0 hz1 hz2;obtain⟨c0,c1,c2,c3,c4,c5,c6,c7,c8⟩:=nine lC;have hnl:=aA lC;have hrl:=aA qZ;go_wp2_with fail;rw [BN];go_upto_region 6 with fail;go_wp2_with fail;refine(HPT W1 yZ.at.p).mono ?_;rintro e W2 ⟨v,rfl,hne,hrow,hb2⟩;obtain⟨av,cv,rfl,_⟩:=GR.own_at (enc:=fH) (sz:=4) aX hrow;have kC:=Hq (ay lC hb2);have jU:=Hq (ay qZ hb2);have HB2:=Hq (HB1.trans (hb2.mono HB1.size));have NW:=Hq (yZ.kc (k:=9) (KC.of_below hb2) Aaa);have Bf:=Hq hrow;have hbs:w.heap.size+1 < W1.heap.size:=hrl;generalize W1.heap.size=bs at *;clear hb2 hne hrow c0 c1 c2 c3 c4 c5 c6 c7 c8 hnl hrl HPT lC qZ HB1 yZ;have f4n:=aj kC 4;have c4n:=(nine kC).2.2.2.2.1;have hn2:=aA kC;go_upto_region 7 with fail;refine wp_at (λZ6 hZ=>?_);have mV:Hid (Z6.heap[w.heap.size]?=some (.cells (gH n.id n.par a_k n.kids.length aL n.next av RL.length cv eD n.out.length aP eO n.seen.length aM n.old gN n.reqs.length aV) 30 (0,0))):=by rw [hZ];exact pY kC
 have jV:Hid (Z6.heap[w.heap.size+1]?=some (.cells fU 30 (0,0))):=by rw [hZ];exact oC jU Aaa
 have HN6:Hid (NQ Z6 B n (⟨a_k,(some ⟨gp,0,none⟩),eD,eO,gN,aL,bE,aP,aM,aV⟩:bC) G (newC w.heap.size 9 c)):=by rw [hZ];exact NW.kc (k:=9) (KC.set (aZ (Nat.le_refl _))) Aaa
 have Zv:Hid (Z6.ownsRow bs 143 4 (.slice av RL.length cv) RL.length (GR.flat fH RL)):=by rw [hZ];exact dG Bf (aC.set _) (λy hy=>by have:y=w.heap.size:=Aat;omega)
 have vP:Hid (Below B w Z6):=by rw [hZ];exact(HB2.mono hB).setCell (p:=⟨w.heap.size,4,none⟩) hB _
 have HK6:Hid (Apart c w Z6):=by rw [hZ];exact(Apart.of_below HB2).keeps HB2.size (aC.set _) (λy hy=>by have:y=w.heap.size:=Aat;omega)
 clear hZ kC jU NW Bf HB2 f4n c4n hn2;have c3n:=(nine mV).2.2.2.1;exact Kw9):P:=h
theorem apf.AeG(h:P:=by
 have rT:=Hq (ay qZ (au W1 (.cells #[] 32)));obtain⟨c0,c1,c2,c3,c4,c5,c6,c7,c8⟩:=nine lC;open al8 in exact Wz):P:=h
theorem awP(h:P:=by
 have hwb:wr.heap.size<=wr.heap.size:=Nat.le_refl _;refine kQ 13 wr.heap.size Aab ?_;show jD _ _ _ _ _ _ 14 (Array.replicate 14 false) _ _
 refine tk [1,2,3,0,4] ?_;iterate 5 (refine tkB hwb (λK hK=>?_);go_simp;first|refine hK _ ?_|(apply Exists.intro;refine⟨λ_=>?_,hK _ ?_⟩;rfl);clear hK K)
 refine jc ?_;clear hwb u0 u1 u2 u3 u4 u5 u6 u7 u8 x0 x1 x2 x3 x4 x5 x6 x7 x8 x9 x10;have V7:=Hq (Below.refl wr.heap.size wr);exact AeI):P:=h
theorem apg.AeI(h:P:=by
 refine iU 5 10 rfl rfl Aab Aad Aad Aae Aae (λx5 hx5=>?_) (λx10 Tz=>?_)
 .have HG:=Hq (Ge.trans V7 hx5);go_simp;open arL in exact afJ
 .open apz in exact ae9):P:=h
theorem aph.AeI(h:P:=by
 refine iU 5 10 rfl rfl Aab Aad Aad Aae Aae (λx5 hx5=>?_) (λx10 Tz=>?_)
 .have HG:=Hq (Ge.trans V7 hx5);go_simp;open asX in exact af5
 .open apy in exact ae9):P:=h
theorem awQ(h:P:=by
 go_in
 go_wp2_with fail;refine(HM _).mono ?_;rintro e w1 ⟨rfl,hb1⟩;have hB:=(au w _).trans (hb1.mono Aac);clear hb1;go_wp2_with fail;refine(HC _).mono ?_;rintro e w2 ⟨rfl,rfl⟩;go_wp2_with fail;refine(HW _).mono ?_;rintro e w2 ⟨rfl,hb2⟩;have hB2:=hB.trans (hb2.mono hB.size);clear hb2 hB;go_wp2_with fail;refine(HT _).mono ?_;rintro e w3 ⟨rfl,hb3⟩;have hB3:=hB2.trans (hb3.mono hB2.size);clear hb3 hB2;exact Aet):P:=h
theorem apj.Aet(h:P:=by
 by_cases hc:(s.size+r.size:Int)<=60000
 .obtain⟨e1,rfl⟩:=ah HR1 hc;have HE:=Hq e1;clear e1 HR1 HR2;have hd:decide ((60000:Int) - r.size < s.size)=false:=decide_eq_false Aaa;have hd2:¬((60000:Int) - r.size < s.size):=Aaa
  go_wp2_with fail;go_ret2
  exact⟨by rw [ah HE];rfl,hB3⟩
 .obtain⟨e1,rfl⟩:=ah HR2 Aaa;have HE:=Hq e1;clear e1 HR1 HR2;have hd:decide ((60000:Int) - r.size < s.size)=true:=decide_eq_true Aaa;have hd2:((60000:Int) - r.size < s.size):=Aaa
  go_wp2_with fail;go_ret2
  exact⟨by rw [ah HE];rfl,hB3⟩):P:=h
theorem apk.Aet(h:P:=by
 go_wp2_with fail;go_ret2
 exact⟨rfl,hB3⟩):P:=h
theorem awR(h:P:=by
 have abq:cand s=⟨s[0].toNat,tF s (gW s 0),tF s (gW s 1),tF s (gW s 2),tF s (gW s 3),jJ s (gW s 4),tF s (iW s (gW s 4))⟩:=by unfold cand;rw [Lr h0];rfl
 have HM:=Hq (show jF s=true->DV s= .tuple #[qg (cand s),.bool true] from λh=>by unfold DV lM;rw [h,if_pos rfl]);have HZ:=Hq (show jF s=false->DV s= .tuple #[.agg (cK 0 0 0 0 0 ⟨#[]⟩ 0),.bool false] from Eo);have hE:vB s=iV s (iW s (gW s 4)):=rfl;rw [hE] at HO;rw [abq] at HP HM HO;exact Afl):P:=h
theorem apl.Afl(h:P:=by
 clear abq hE e1 e2 e3 e4;have hne:=jT s h0;have hi0:(0:Int) < (s.size:Int):=Aaa
 open asy in exact Vi):P:=h
theorem apm.Afl(h:P:=by
 clear hcs abq hE;have hne:=jT s h0;have hi0:(0:Int) < (s.size:Int):=Aaa
 open aqM in exact afs):P:=h
theorem awS(h:P:=by
 go_simp;refine(ajS (w.heap.size+1) _ HCY).mono ?_;rintro e w3 ⟨t,rfl,ht,_,hk3⟩;have HK3:=Hq hk3;have hO3:w3.heap[w2.heap.size]?=some (.cells (gH id par ak kids.length ck next ap pu.length cp ao out.length co as' seen.length cs old ar reqs.length cr) 30 (0,0)):=by rw [hk3.block _ (aA (ah HOY)) Aaa];exact HOY
 have HR4:=Hq (show w3.heap[w.heap.size]?=some (.cells fU 30 (0,0)) by rw [hk3.block _ (aA (ah Hg)) Aaa];exact Hg);clear hk3 d0 d1 d2 d3 d4 d5 d6 d7 d8;exact Aee):P:=h
theorem apn.Aee(h:P:=by
 obtain⟨x0,x1,x2,x3,x4,x5,x6,x7,x8⟩:=nine hO3;go_simp;refine aF 0 rfl Aab Aad ?_;go_simp;clear hO3 x0 x1 x2 x3 x4 x5 x6 x7 x8;exact axa):P:=h
theorem apo.Aee(h:P:=by
 clear hO3;exact axa):P:=h
theorem awT(h:P:=by
 have hTi:∀j,j < 3->∃u,wc.cell? ⟨G.s,i*3+j,none⟩=some u/\wc.frozen? ⟨G.s,i*3+j,none⟩=false:=λj hj=>⟨_,(hcT j hj).1.trans (List.getElem?_eq_getElem (by rw [eF];exact hj)),(hcT j hj).2⟩
 obtain⟨v0,y0,x0⟩:=hTi 0 Aaa;obtain⟨v1,y1,x1⟩:=hTi 1 Aaa;obtain⟨v2,y2,x2⟩:=hTi 2 Aaa;rw [Nat.add_zero] at y0 x0;exact AdM):P:=h
theorem apq.AdM(h:P:=by
 clear hTi hcT hrT hT hlT T aym Ls hown2 ae1 Zr ae4 ZE aeQ UH ae0 aeS aeV adv;have aB4:G.s < wc.heap.size:=Aaa
 obtain⟨c0,c1,c2,c3,c4,c5,c6,c7,c8⟩:=nine UN;obtain⟨s40,s41,s42⟩:=CK ZF;have hnl:=aA UN;have ayo:=aA ZF;have axZ:Hid ((mQ (bg s0 mL) mI).length=(bg s0 mL).length+1):=abm;clear abm;go_upto_region 27 with fail;refine wp_at (λW12 ajq=>?_)
 have akO:Hid (NQ W12 B (dA (dA n (n.seen.set i ⟨mF,eZ s0 mL,bg s0 mL⟩)) ((n.seen.set i ⟨mF,eZ s0 mL,bg s0 mL⟩).set i ⟨mF,eZ s0 mL,mQ (bg s0 mL) mI⟩)) (⟨a_k,(some ⟨gp,0,none⟩),eD,(some ⟨G.s,0,none⟩),gN,aL,bE,aP,aM,aV⟩:bC) ⟨G.k,G.p,G.o,G.s,G.r,lS (lS G.i i gi) i g2⟩ (vM g2 (mQ (bg s0 mL) mI) (vM gi (bg s0 mL) (newC w.heap.size 9 c)))):=by
  rw [ajq,<-ah axZ];exact HNP
 have Tp:aC [G.s] wc W12:=by
  rw [ajq];exact aK [.int .i64 mF,.int .i64 (eZ s0 mL),.slice (some ⟨g2,0,none⟩) ((bg s0 mL).length+1) cq2] wc (i*3)
 have ae2:=Hq (Tp.obj UN (λhx=>Aak));have rD:=Hq (Tp.obj ae5 (λhx=>Aak));have akr:=Hq (Tp.obj aeR (λhx=>Aak));have aku:=Hq (aeT.trans (Tp.below (B:=B) (λx hx=>Aak) Aaa));have akG:=Hq (Apart.keeps (c:=c) aeW Aaa Tp (λx hx=>by have:x=G.s:=Aag;rw [this];right;omega));have ayV:=Hq (akS.keeps Tp (λx hx=>Aak));have ayI:Hid (∀x,x < w.heap.size->6 < c x->vM g2 (mQ (bg s0 mL) mI) (vM gi (bg s0 mL) (newC w.heap.size 9 c)) x=9):=λx hx h=>by rw [vW (λhm=>by have:=(gV hm).1;omega)];exact HCO x hx h
 have akz:Hid (∀x,w.heap.size<=x->x≠gi->x≠g2->vM g2 (mQ (bg s0 mL) mI) (vM gi (bg s0 mL) (newC w.heap.size 9 c)) x=9):=λx hx h h'=>by rw [vW (λhm=>h' (gV hm).1)];exact Ee x hx h
 clear ajq Tp HNP y0 y1 y2 x0 x1 x2 s40 s41 s42 c0 c1 c2 c3 c4 c5 c6 c7 c8 hnl ayo UN ae5 aeR aeT aeW akS ZF Zt HW2;obtain⟨c0,c1,c2,c3,c4,c5,c6,c7,c8⟩:=nine ae2;obtain⟨d0,d1,d2,d3,d4,d5,d6,d7,d8⟩:=nine rD;have f0:=aj rD 0;have f1:=aj rD 1;have f2:=aj rD 2;have f3:=aj rD 3;have f4:=aj rD 4;have f5:=aj rD 5;have f6:=aj rD 6;have f7:=aj rD 7;have f8:=aj rD 8;have hnl:=aA ae2;have hrl:=aA rD;go_wp2_with fail;refine aO (λW' hW'=>?_)
 have e4:W'.heap[w.heap.size+2]?=some (.cells (gH n.id n.par a_k n.kids.length aL n.next av RL.length cv eD n.out.length aP (some ⟨G.s,0,none⟩) n.seen.length aM n.old gN n.reqs.length aV) 30 (0,0)):=by
  rw [hW'];exact GR.setW_blk (gH n.id n.par a_k n.kids.length aL n.next av RL.length cv eD n.out.length aP (some ⟨G.s,0,none⟩) n.seen.length aM n.old gN n.reqs.length aV).toList (o:=0) (xs:=fU.toList) rD
 have gL:aC [w.heap.size+2] W12 W':=by
  rw [hW'];exact aK (gH n.id n.par a_k n.kids.length aL n.next av RL.length cv eD n.out.length aP (some ⟨G.s,0,none⟩) n.seen.length aM n.old gN n.reqs.length aV).toList W12 0
 have abA:w.heap.size+2≠gi:=Aaa
 have Wm:=Hq (akO.kc (k:=9) (KC.keeps gL (λx hx=>by have:x=w.heap.size+2:=Aag;rw [this];exact akz _ Aaa abA Aaa)) Aaa)
 have HAT:Hid (∀W'',Out c w W' W''->RM W'' (⟨a_k,av,eD,(some ⟨G.s,0,none⟩),gN,aL,cv,aP,aM,aV⟩:bC) (dA (setPu n RL) (n.seen.set i ⟨mF,eZ s0 mL,mQ (bg s0 mL) mI⟩))):=λW'' ho=>by
  obtain⟨F,hk,hF⟩:=ho
  have hold:=(Wm.kc (k:=9) (KC.keeps hk (λx hx=>ayI x (hF x hx).1 (hF x hx).2)) Aaa)
  have ho:Out c w W' W'':=⟨F,hk,hF⟩
  have hc9:∀g,av.map (λy=>y.block)=some g->0 < RL.length->vM g2 (mQ (bg s0 mL) mI) (vM gi (bg s0 mL) (newC w.heap.size 9 c)) g=9:=λg hg hp=>by
   have h1:=ah Ob g hg hp
   exact akz g Aaa Aaa Aaa
  refine NQ.put hold hold (dA (setPu n RL) (n.seen.set i ⟨mF,eZ s0 mL,mQ (bg s0 mL) mI⟩)) (⟨a_k,av,eD,(some ⟨G.s,0,none⟩),gN,aL,cv,aP,aM,aV⟩:bC) rfl (by simp only[dA,List.set_set]) rfl rfl ((ayV.keeps gL (λx hx=>Aak)).out Aaa ho) (λg hg hp=> .inr (by have h3:=hc9 g hg hp;omega)) hold.o (λy hy=> .inl (hold.co y hy)) hold.r (λy hy=> .inl (hold.cr y hy)) (λg hg hp _=>⟨λe=>?_,λe=>?_⟩) (λx hx h6=>by have:=hold.co x hx;omega)
  .have h1:=hold.co g e;have h2:=hc9 g hg hp;omega
  .have h1:=hold.cr g e;have h2:=hc9 g hg hp;omega
 have GK:Hid (∀W'',Out c w W' W''->GR.At lF 7 W'' (some ⟨ab,0,none⟩) [⟨2,n.id,mF,mI,0,ByteArray.empty,0⟩]):=λW'' ho j hj=>Sv (gL.obj akr (λhm=>by simp at hm;omega)) ho Aaa j hj
 have nO:Hid (Below B w W'):=aku.trans (gL.below (λx hx=>by have:x=w.heap.size+2:=Aag;omega) (by have h1:=aA rD;omega));have tZ:=Hq (Apart.keeps (c:=c) akG (by have h1:=aA rD;omega) gL (λx hx=>by have:x=w.heap.size+2:=Aag;omega));obtain⟨x0,x1,x2,x3,x4,x5,x6,x7,x8⟩:=nine e4;clear hW' e4 gL
 first
  |exact bodyPost_ret (v:= .tuple #[.agg (gH n.id n.par a_k n.kids.length aL n.next av RL.length cv eD n.out.length aP (some ⟨G.s,0,none⟩) n.seen.length aM n.old gN n.reqs.length aV),.slice (some ⟨ab,0,none⟩) 1 1,.int .i64 0]) Abv rfl ⟨(⟨a_k,av,eD,(some ⟨G.s,0,none⟩),gN,aL,cv,aP,aM,aV⟩:bC),(some ⟨ab,0,none⟩),⟨1,by simp[fT,dD,dA,setPu]⟩,HAT,GK,nO,tZ⟩
  |exact bodyPost_ret (v:= .tuple #[.agg (gH n.id n.par a_k n.kids.length aL n.next av RL.length cv eD n.out.length aP (some ⟨G.s,0,none⟩) n.seen.length aM n.old gN n.reqs.length aV),.slice (some ⟨ab,0,none⟩) 1 1,.int .i64 0]) Abv rfl ⟨(⟨a_k,av,eD,(some ⟨G.s,0,none⟩),gN,aL,cv,aP,aM,aV⟩:bC),(some ⟨ab,0,none⟩),1,by simp[fT,dD,dA,setPu],HAT,GK,nO,tZ⟩):P:=h
theorem apr.AdM(h:P:=by
 clear hTi hcT hrT hT hlT T vD hb4 aiz mJ Wj mO HB3 akN ak1 adA;have aB3:G.s < wc.heap.size:=Aaa
 obtain⟨c0,c1,c2,c3,c4,c5,c6,c7,c8⟩:=nine BD;obtain⟨s40,s41,s42⟩:=CK ZH;have sf:=aj ZH 2;have hnl:=aA BD;have hne1:sb≠G.s:=Aaa
 have hne2:G.s≠sb:=Aaa
 go_upto_region 15 with fail;refine wp_at (λW6 RA=>?_);exact AaL):P:=h
theorem aiX(h:P:=by
 (refine tkB ajI (λK hK=>?_);go_simp;first|refine hK _ ?_|(apply Exists.intro;refine⟨λ_=>?_,hK _ ?_⟩;rfl);clear hK K)
 refine jc ?_;refine nN Aab (λz hz=>?_);have NI:=Hq (Wi.trans (hz.mono Wi.size));have HVz:=Hq (GR.own_below Wx hz);exact Ab8):P:=h
theorem aps.Ab8(h:P:=by
 have hsz:vw.heap.size<=z.heap.size:=NI.size;clear hz;have BH:=Hq (show z.heap[sb]?=some (.cells #[.int .i64 mF,.int .i64 (eZ s0 mL),.slice (some ⟨gi,0,none⟩) (bg s0 mL).length OV] 90 (0,0)) by rw [(ah NI).block _ ayn];exact ZE);obtain⟨_,_,kc⟩:=CK BH;have kf:=aj BH 2;refine aF 14 rfl Aab Aad ?_;go_simp;refine wpAny_done Aab ?_;go_simp;go_wp2_with fail;go_meet
 case rel=>
  rcases HVz.2 with⟨_,hn⟩|⟨g,cap,cur,hv,hbg,_⟩
  .omega
  .simp only[Value.slice.injEq] at hv;obtain⟨rfl,_,_⟩:=hv;have h2:=ah HVz;rw [show pos+1+((bg s0 mL).length - pos)=(bg s0 mL).length+1 by omega] at h2;refine⟨g,cvT,hbg,?_,?_,(aC.of_below NI).trans (aC.set _)⟩
   .rw [ah Zm];rw [List.append_assoc] at h2;refine acA h2 (aC.set _) (λx hx hm=>?_);simp[Value.ownBlock] at hx;simp at hm;omega
   .have h:=aT BH 2 (.slice (some ⟨g,0,none⟩) (pos+1+((bg s0 mL).length - pos)) cvT);rw [show pos+1+((bg s0 mL).length - pos)=(bg s0 mL).length+1 by omega] at h ⊢;exact h):P:=h
theorem apt.Ab8(h:P:=by
 have hsz:wc.heap.size<=z.heap.size:=NI.size;clear hz;have HNz:Hid (z.heap[w.heap.size]?=some (.cells (gH n.id n.par a_k n.kids.length aL n.next (some ⟨gp,0,none⟩) n.pu.length bE eD n.out.length aP eO n.seen.length aM n.old (some ⟨gr,0,none⟩) n.reqs.length aV) 30 (0,0))):=by unfold Hid;rw [(ah NI).block _ hnl];exact Dz
 have HRz:Hid (z.heap[w.heap.size+2]?=some (.cells fU 30 (0,0))):=by unfold Hid;rw [(ah NI).block _ (aA (ah zl))];exact zl
 have Rt:Hid (z.heap[W1.heap.size]?=some (.cells (eG no k nn 1) 97 (0,0))):=by unfold Hid;rw [(ah NI).block _ Pk];exact Ws
 open avH in exact agQ):P:=h
theorem apu.Ab8(h:P:=by
 have hsz:wc.heap.size<=z.heap.size:=NI.size;clear hz;have HNz:Hid (z.heap[w.heap.size]?=some (.cells (gH n.id n.par a_k n.kids.length aL n.next av RL.length cv eD n.out.length aP eO n.seen.length aM n.old (some ⟨gr,0,none⟩) n.reqs.length aV) 30 (0,0))):=by unfold Hid;rw [(ah NI).block _ hnl];exact Dz
 have HRz:Hid (z.heap[w.heap.size+2]?=some (.cells fU 30 (0,0))):=by unfold Hid;rw [(ah NI).block _ (aA (ah zl))];exact zl
 have Rt:Hid (z.heap[W1.heap.size]?=some (.cells (eG no k nn 0) 97 (0,0))):=by unfold Hid;rw [(ah NI).block _ Pk];exact Ws
 open avG in exact agQ):P:=h
theorem aiY(h:P:=by
 rw [<-hW] at e2 e3;have KQ:=Hq e2;have HW1:=Hq (HW0.step e3);clear hW e2 e3;generalize w.heap.size+1=B at *;obtain⟨c0,c1,c2,c3,c4,c5,c6,c7,c8,c9⟩:=jr HW1.blk;obtain⟨⟨p0,p1,p2,p3,p4,p5,p6⟩,_⟩:=dQ KQ;have hBl:=aA KQ;have aBN:=aA HW1.blk;exact AbW):P:=h
theorem apv.AbW(h:P:=by
 go_upto_region 12 with fail;go_wp2_with fail;refine(HDL W B KQ HW1.no.o).mono ?_;rintro e y ⟨a2,cp2,rfl,hrow,hgr,hx2⟩;have HY:=Hq (HW1.setOut hgr hrow hx2);clear hrow hgr hx2 HDL c0 c1 c2 c3 c4 c5 c6 c7 c8 c9 p0 p1 p2 p3 p4 p5 p6;obtain⟨c0,c1,c2,c3,c4,c5,c6,c7,c8,c9⟩:=jr HY.1;have f5:=aj HY.1 5;have ajJ:=aA HY.1;go_wp2_with fail;go_ret;exact⟨rfl,_,G,c,v,by rw [List.append_nil];exact HY.2⟩):P:=h
theorem apw.AbW(h:P:=by
 go_wp2_with fail;refine(UW W HW1).mono ?_;rintro e y ⟨rfl,⟨A',G',c',hY⟩,hJ⟩;have HY:=Hq hY;have EI:=Hq (hJ B ⟨1,mF,mT,mI,mL,mk,mN⟩ KQ);clear hY hJ UW p0 p1 p2 p3 p4 p5 p6 c0 c1 c2 c3 c4 c5 c6 c7 c8 c9;exact Afp):P:=h
theorem apx.AbW(h:P:=by
 have Sc:=Hq (λp:Regrown=>HW1.no.at.below (below_regrown _ p.d p.os));go_upto_region 4 with fail;open alb in exact Ht):P:=h
theorem ae9(h:P:=by
 have Zi:=Hq (Ge.trans V7 Tz);go_simp;refine⟨(au x10 _).mono Zi.size,?_⟩;have hqV:wr.heap.size<=x10.heap.size:=Zi.size;have ayJ:=Hq (Ge.trans Zi (au x10 (.cells fU 30)));have HQ1:=Hq (heap_alloc_new x10 (.cells fU 30));clear Tz;generalize x10.heap.size=qf at *;refine fC 5 rfl Aab Aad Aae (λx5 hx5=>?_);have HG:=Hq (Ge.trans ayJ hx5);have HQ:=Hq (ay HQ1 hx5);go_simp;exact AeU):P:=h
theorem apy.AeU(h:P:=by
 open asW in exact af5):P:=h
theorem apz.AeU(h:P:=by
 open arK in exact afJ):P:=h
theorem ZW(h:P:=by
 refine wp_at (λW0 hW0=>?_);have HB0:Hid (W0.heap[w.heap.size]?=some (.cells (dD ⟨id,par,kids,next,pu,out,seen,old,reqs⟩ ⟨ak,ap,ao,as',ar,ck,cp,co,cs,cr⟩) 30 (0,0))):=by rw [hW0];exact lU
 have NK:Hid (aY w W0):=Acx
 clear hW0 lU;exact AcG):P:=h
theorem apA.AcG(h:P:=by
 obtain⟨c0,c1,c2,c3,c4,c5,c6,c7,c8⟩:=nine HB0;open auJ in exact agw):P:=h
theorem apB.AcG(h:P:=by
 obtain⟨bb,hbb⟩:∃bb,(!(PL&&PS&&TD&&fV next&&decide (out.length<=40)&&ru old&&decide (reqs.length<=30)))=bb:=⟨_,rfl⟩;have fO:=Hq hbb;clear hbb;obtain⟨c0,c1,c2,c3,c4,c5,c6,c7,c8⟩:=nine HB0;go_cut [44] (λr wx=>r= .bool bb/\wx.heap[w.heap.size]?=some (.cells (dD ⟨id,par,kids,next,pu,out,seen,old,reqs⟩ ⟨ak,ap,ao,as',ar,ck,cp,co,cs,cr⟩) 30 (0,0))/\aY w wx)
 case first=>
  open auI in exact agw
 case rest=>
  obtain⟨rfl,hblk,hbel⟩:=hcut;have HB1:=Hq hblk;have Zn:=Hq hbel;clear hblk hbel c0 c1 c2 c3 c4 c5 c6 c7 c8 Ob HPU HTO HB0 NK;cases hbv:bb
  case' true=>
   have HP:Hid (TT=false):=by
    have h:=ah fO;rw [hbv] at h;rw [ah HD];generalize (PL&&PS&&TD&&fV next&&decide (out.length<=40)&&ru old&&decide (reqs.length<=30))=X at *;cases X
    .rfl
    .cases h
   clear fO HD
   subst hbv
   go_wp2_with fail
   go_ret
   exact⟨aD HP.symm,Zn⟩
  have HF:Hid (fV next=true/\ru old=true/\TT=(iB OT (λs t=>iQ s.i t.i) out&&iB RQ (λs t=>iQ s.no t.no) reqs)):=by
   have h:=ah fO;rw [hbv] at h;rw [ah HD];cases h4:fV next<;>cases h6:ru old<;>rw [h4,h6] at h
   all_goals first
    |(simp at h;done)
    |skip
   refine⟨rfl,rfl,?_⟩;generalize (PL&&PS&&TD&&true&&decide (out.length<=40)&&true&&decide (reqs.length<=30))=X at *;cases X
   .cases h
   .rfl
  clear fO HD;subst hbv;obtain⟨hn1,ho1,hTT⟩:=ah HF;have HTT:=Hq hTT;have hn2:1<=next/\next<=1000000000:=of_decide_eq_true hn1;have ho2:0<=old/\old<=1000000000:=of_decide_eq_true ho1;obtain⟨hn3,hn4⟩:=hn2;obtain⟨ho3,ho4⟩:=ho2;clear hn1 ho1 hTT HF;have xG:=Hq (λk h=>qd OT (λs t=>iQ s.i t.i) out k h);have Dt:=Hq (sG OT (λs t=>iQ s.i t.i) out);have Ee:=Hq (vV OT (λs t=>iQ s.i t.i) out);have HDB:=Hq (λk h=>qd RQ (λs t=>iQ s.no t.no) reqs k h);have HDF:=Hq (sG RQ (λs t=>iQ s.no t.no) reqs);have HDN:=Hq (vV RQ (λs t=>iQ s.no t.no) reqs);generalize (λs t:lJ=>iQ s.i t.i)=RO at *;generalize (λs t:Rq=>iQ s.no t.no)=RR at *;go_wp2_with fail;go_loopw [3] (λi wr=>∃k:Nat,k<=out.length/\i= .int .i64 k/\iB OT RO (out.take k)=true/\wr.heap[w.heap.size]?=some (.cells (dD ⟨id,par,kids,next,pu,out,seen,old,reqs⟩ ⟨ak,ap,ao,as',ar,ck,cp,co,cs,cr⟩) 30 (0,0))/\aY w wr) (λi _=>out.length - (intOf i).toNat)
  case atStart=>exact⟨0,Nat.zero_le _,rfl,rfl,HB1,Zn⟩
  case round=>
   open aoi in exact adM):P:=h
theorem apC.AcG(h:P:=by
 obtain⟨al,hal⟩:∃al:Int,(kids.length:Int)+(if 0<=par then 1 else 0)=al:=⟨_,rfl⟩;rw [hal] at HD;go_cut [3] (λr wx=>r= .int .i64 al/\wx=W0)
 case first=>
  by_cases hp:0<=par
  .rw [if_pos hp] at hal;have HAL:=Hq hal;clear hal;go_wp2_with fail;go_meet
   case rel=>exact⟨by rw [<-ah HAL],rfl⟩
  .rw [if_neg hp] at hal;have HAL:=Hq hal;clear hal;go_wp2_with fail;go_meet
   case rel=>exact⟨by rw [<-ah HAL,Int.add_zero],rfl⟩
 case rest=>
  obtain⟨rfl,rfl⟩:=hcut;clear hal;obtain⟨c0,c1,c2,c3,c4,c5,c6,_⟩:=nine HB0;by_cases hlen:(seen.length:Int)=al
  case' neg=>
   have hbn:((seen.length:Int) != al)=true:=by simpa using hlen
   have HP:Hid (TT=false):=by rw [ah HD,decide_eq_false hlen];rfl
   clear hlen HD xG Dt Ee Nu HPP HRR
   go_wp2_with fail
   go_ret
   exact⟨aD HP.symm,NK⟩
  have hbn:((seen.length:Int) != al)=false:=by simpa using hlen
  have lD:Hid (TT=iB PP RR seen):=by rw [ah HD,decide_eq_true hlen];rfl
  clear hlen HD;go_wp2_with fail;go_loopw [4] (λi wr=>∃k:Nat,k<=seen.length/\i= .int .i64 k/\iB PP RR (seen.take k)=true/\wr.heap[w.heap.size]?=some (.cells (dD ⟨id,par,kids,next,pu,out,seen,old,reqs⟩ ⟨ak,ap,ao,as',ar,ck,cp,co,cs,cr⟩) 30 (0,0))/\aY w wr) (λi _=>seen.length - (intOf i).toNat)
  case atStart=>exact⟨0,Nat.zero_le _,rfl,rfl,HB0,NK⟩
  case round=>
   open aoh in exact adM):P:=h
theorem afa(h:P:=by
 clear h hc;obtain⟨⟨p0,p1,p2,p3,p4,p5,p6,p7,p8,p9,oD⟩,_⟩:=aQ R4;have hpl:=aA R4;go_upto_region 3 with fail;have z1:=cell_regrown p1;have z2:=cell_regrown p2;have z3:=cell_regrown p3;clear p0 p1 p2 p3 p4 p5 p6 p7 p8 p9 oD;refine bV 9 Aab ?_;show fD _ _ _ _ _ 10 (Array.replicate 10 false) _ _
 refine tk [0,1,2,3,5,6] ?_;iterate 6 (refine su (λK hK=>?_);go_simp;refine hK _ ?_;clear hK K)
 refine jc ?_;clear z1 z2 z3;exact AdW):P:=h
theorem apD.AdW(h:P:=by
 refine yV 4 8 rfl rfl Aab Aad Aad (λx hx=>?c1) (λx hx=>?c2)
 case' c1=>
  go_simp
  refine(clone k x Aaa).mono ?_
  rintro e y ⟨rfl,hby⟩
  refine⟨hby,?_⟩
  have HY:=Hq (Ge.trans hx hby)
  clear hx hby
  refine tk [7] ?_
  (refine su (λK hK=>?_);go_simp;refine hK _ ?_;clear hK K)
  refine jc ?_
  refine dM 8 rfl Aab Aad (λx2 hx2=>?_)
  go_simp
  refine⟨au x2 _,?_⟩
  have hgl:z.heap.size<=x2.heap.size:=(Ge.trans HY hx2).size
  have Dw:=Hq (heap_alloc_new x2 (.cells (eG 0 ⟨#[]⟩ 0 0) 97))
  have vQ:=Hq (Ge.trans (Ge.trans HY hx2) (au x2 (.cells (eG 0 ⟨#[]⟩ 0 0) 97)))
  clear hx2 HY
  generalize x2.alloc (.cells (eG 0 ⟨#[]⟩ 0 0) 97)=y2 at *
  generalize x2.heap.size=g at *
  refine bf Aab (λz2 hz2=>?_)
  have lq:=Hq (ay Dw hz2)
  have fO:=Hq (Ge.trans vQ hz2)
  clear hz2 Dw vQ
  have DX:=aA lq
  obtain⟨g0,g1,g2,g3⟩:=gP lq
  have f0:=aj lq 0
  have f1:=aj lq 1
  have f2:=aj lq 2
  have f3:=aj lq 3
  refine aF 9 rfl Aab Aad ?_
  go_simp
  refine wpAny_done Aab ?_
  go_simp
  go_upto_region 4 with fail
  refine wp_at (λW hW=>?_)
  have UG:Hid (W.heap[g]?=some (.cells (eG no k nn 0) 97 (0,0))):=Acd
  have iA:Hid (aY z W):=Ace
  clear hW lq fO DX g0 g1 g2 g3 f0 f1 f2 f3
 case' c2=>
  go_simp
  refine⟨au x _,?_⟩
  have hgl:z.heap.size<=x.heap.size:=hx.size
  have Dw:=Hq (heap_alloc_new x (.cells (eG 0 ⟨#[]⟩ 0 0) 97))
  have vQ:=Hq (Ge.trans hx (au x (.cells (eG 0 ⟨#[]⟩ 0 0) 97)))
  clear hx
  generalize x.alloc (.cells (eG 0 ⟨#[]⟩ 0 0) 97)=y2 at *
  generalize x.heap.size=g at *
  refine dM 4 rfl Aab Aad (λx2 hx2=>?_)
  go_simp
  refine(clone k x2 Aaa).mono ?_
  rintro e y3 ⟨rfl,hby⟩
  refine⟨hby,?_⟩
  have HGC:=Hq (ay Dw (Ge.trans hx2 hby))
  have HBC:=Hq (Ge.trans vQ (Ge.trans hx2 hby))
  clear hx2 hby Dw vQ
  refine tk [7] ?_
  (refine su (λK hK=>?_);go_simp;refine hK _ ?_;clear hK K)
  refine jc ?_
  refine bf Aab (λz2 hz2=>?_)
  have lq:=Hq (ay HGC hz2)
  have fO:=Hq (Ge.trans HBC hz2)
  clear hz2 HGC HBC
  have DX:=aA lq
  obtain⟨g0,g1,g2,g3⟩:=gP lq
  have f0:=aj lq 0
  have f1:=aj lq 1
  have f2:=aj lq 2
  have f3:=aj lq 3
  refine aF 9 rfl Aab Aad ?_
  go_simp
  refine wpAny_done Aab ?_
  go_simp
  go_upto_region 4 with fail
  refine wp_at (λW hW=>?_)
  have UG:Hid (W.heap[g]?=some (.cells (eG no k nn 0) 97 (0,0))):=Acd
  have iA:Hid (aY z W):=Ace
  clear hW lq fO DX g0 g1 g2 g3 f0 f1 f2 f3
 all_goals
  have ZL:=Hq (HZ.step iA)
  have GQ:=Hq (ay R4 iA)
  clear HZ R4 iA
  obtain⟨⟨p0,p1,p2,p3,p4,p5,p6,p7,p8,p9,oD⟩,_⟩:=aQ GQ
  have hpw:=aA GQ
  go_wp2_with fail
  refine(rT W ZL).mono ?_
  rintro e w1 ⟨rfl,hb1⟩
  have HW2:=Hq (ZL.step hb1)
  have HG2:=Hq (ay UG hb1)
  clear hb1 rT p0 p1 p2 p3 p4 p5 p6 p7 p8 p9 oD ZL GQ UG
  go_upto_region 5 with fail
  refine wp_at (λV hV=>?_)
  obtain rfl:=hV
  obtain⟨g6,hAr,aCu,aBe,⟨q0,q1,q2,q3⟩,_⟩:=HW2.reqRow i hil
  obtain⟨d0,d1,d2,d3,d4,d5,d6,d7,d8,d9⟩:=jr HW2.blk
  rw [hAr] at d8
  obtain⟨s0,s1,s2,s3⟩:=gP HG2
  have hw2:=aA HW2.blk
  have hg2:=aA HG2
  have aBi:(i:Int) < (n.reqs.length:Int):=Aaa
  generalize n.reqs[i]=lm at *
  obtain⟨ln,lk,lx,ls⟩:=lm
  dsimp only at q0 q1 q2 q3 aec HSQ
  subst aec
  have heq:=aAR ln lk k lx nn ls 0
  have hB:=ah HSQ
  generalize (lk.toList == k.toList&&decide (lx=nn)&&decide (ls=0))=B at *
  subst hB
  have y8:=cell_regrown d8
  have x0:=cell_regrown q0
  have x1:=cell_regrown q1
  have x2:=cell_regrown q2
  have x3:=cell_regrown q3
  have v0:=cell_regrown s0
  have v1:=cell_regrown s1
  have v2:=cell_regrown s2
  have v3:=cell_regrown s3
  clear d0 d1 d2 d3 d4 d5 d6 d7 d8 d9 q0 q1 q2 q3 s0 s1 s2 s3
  refine dz Aab ?_
  show iL _ _ _ _ 13 (Array.replicate 13 false) _ _
  refine tk [0,1,2,3,4,5,6,7,8,9,10,11,12] ?_
  iterate 13 (refine vJ (λK hK=>?_);go_simp;refine hK _ ?_;clear hK K)
  refine jc ?_
  refine fE Aab (λV hV=>?_)
  have HW3:=Hq (HW2.step hV)
  clear hV HW2 HG2 y8 x0 x1 x2 x3 v0 v1 v2 v3 heq
  go_simp
  cases SQ
  all_goals
   go_wp2_with fail
   go_ret
   rw [ah HAD]
   exact⟨rfl,A,G,c,HW3⟩):P:=h
theorem apE.AdW(h:P:=by
 refine yV 4 8 rfl rfl Aab Aad Aad (λx hx=>?c1) (λx hx=>?c2)
 case' c1=>
  go_simp
  refine(clone k x Aaa).mono ?_
  rintro e y ⟨rfl,hby⟩
  refine⟨hby,?_⟩
  have HY:=Hq (Ge.trans hx hby)
  clear hx hby
  refine tk [7] ?_
  (refine su (λK hK=>?_);go_simp;refine hK _ ?_;clear hK K)
  refine jc ?_
  refine dM 8 rfl Aab Aad (λx2 hx2=>?_)
  go_simp
  refine⟨au x2 _,?_⟩
  have hgl:z.heap.size<=x2.heap.size:=(Ge.trans HY hx2).size
  have Dw:=Hq (heap_alloc_new x2 (.cells (eG 0 ⟨#[]⟩ 0 0) 97))
  have vQ:=Hq (Ge.trans (Ge.trans HY hx2) (au x2 (.cells (eG 0 ⟨#[]⟩ 0 0) 97)))
  clear hx2 HY
  generalize x2.alloc (.cells (eG 0 ⟨#[]⟩ 0 0) 97)=y2 at *
  generalize x2.heap.size=g at *
  refine bf Aab (λz2 hz2=>?_)
  have lq:=Hq (ay Dw hz2)
  have fO:=Hq (Ge.trans vQ hz2)
  clear hz2 Dw vQ
  have DX:=aA lq
  obtain⟨g0,g1,g2,g3⟩:=gP lq
  have f0:=aj lq 0
  have f1:=aj lq 1
  have f2:=aj lq 2
  have f3:=aj lq 3
  refine aF 9 rfl Aab Aad ?_
  go_simp
  refine wpAny_done Aab ?_
  go_simp
  go_upto_region 4 with fail
  refine wp_at (λW hW=>?_)
  have UG:Hid (W.heap[g]?=some (.cells (eG no k nn 0) 97 (0,0))):=Acd
  have iA:Hid (aY z W):=Ace
  clear hW lq fO DX g0 g1 g2 g3 f0 f1 f2 f3
 case' c2=>
  go_simp
  refine⟨au x _,?_⟩
  have hgl:z.heap.size<=x.heap.size:=hx.size
  have Dw:=Hq (heap_alloc_new x (.cells (eG 0 ⟨#[]⟩ 0 0) 97))
  have vQ:=Hq (Ge.trans hx (au x (.cells (eG 0 ⟨#[]⟩ 0 0) 97)))
  clear hx
  generalize x.alloc (.cells (eG 0 ⟨#[]⟩ 0 0) 97)=y2 at *
  generalize x.heap.size=g at *
  refine dM 4 rfl Aab Aad (λx2 hx2=>?_)
  go_simp
  refine(clone k x2 Aaa).mono ?_
  rintro e y3 ⟨rfl,hby⟩
  refine⟨hby,?_⟩
  have HGC:=Hq (ay Dw (Ge.trans hx2 hby))
  have HBC:=Hq (Ge.trans vQ (Ge.trans hx2 hby))
  clear hx2 hby Dw vQ
  refine tk [7] ?_
  (refine su (λK hK=>?_);go_simp;refine hK _ ?_;clear hK K)
  refine jc ?_
  refine bf Aab (λz2 hz2=>?_)
  have lq:=Hq (ay HGC hz2)
  have fO:=Hq (Ge.trans HBC hz2)
  clear hz2 HGC HBC
  have DX:=aA lq
  obtain⟨g0,g1,g2,g3⟩:=gP lq
  have f0:=aj lq 0
  have f1:=aj lq 1
  have f2:=aj lq 2
  have f3:=aj lq 3
  refine aF 9 rfl Aab Aad ?_
  go_simp
  refine wpAny_done Aab ?_
  go_simp
  go_upto_region 4 with fail
  refine wp_at (λW hW=>?_)
  have UG:Hid (W.heap[g]?=some (.cells (eG no k nn 0) 97 (0,0))):=Acd
  have iA:Hid (aY z W):=Ace
  clear hW lq fO DX g0 g1 g2 g3 f0 f1 f2 f3
 all_goals
  have ZL:=Hq ((HZ.recol (c':=newC z.heap.size 9 c) (λx hx=>eT hx)).step iA)
  have hcg:newC z.heap.size 9 c g=9:=aZ hgl
  have GQ:=Hq (ay R4 iA)
  have hgw:=aA UG
  have aBg:g≠wb:=by have:=aA HZ.blk;omega
  clear HZ R4 iA
  obtain⟨⟨p0,p1,p2,p3,p4,p5,p6,p7,p8,p9,oD⟩,_⟩:=aQ GQ
  have hpw:=aA GQ
  go_wp2_with fail
  refine(rT W _ ZL).mono ?_
  rintro e w1 ⟨rfl,hb1⟩
  have HW2:=Hq (ZL.step hb1)
  have Bf:=Hq (ay GQ hb1)
  have HG2:=Hq (ay UG hb1)
  clear hb1 rT p0 p1 p2 p3 p4 p5 p6 p7 p8 p9 oD ZL GQ UG hgw
  go_upto_region 5 with fail
  refine wp_at (λV hV=>?_)
  obtain rfl:=hV
  refine dz Aab ?_
  show iL _ _ _ _ 13 (Array.replicate 13 false) _ _
  refine tk [0,1,2,3,4,5,6,7,8,9,10,11,12] ?_
  iterate 13 (refine vJ (λK hK=>?_);go_simp;refine hK _ ?_;clear hK K)
  refine jc ?_
  refine fE Aab (λV hV=>?_)
  have HW3:=Hq (HW2.step hV)
  have YR:=Hq (ay Bf hV)
  have NC:=Hq (ay HG2 hV)
  clear hV HW2 Bf HG2
  obtain⟨c0,c1,c2,c3,c4,c5,c6,c7,c8,c9⟩:=jr HW3.blk
  obtain⟨⟨p0,p1,p2,p3,p4,p5,p6,p7,p8,p9,oD⟩,_⟩:=aQ YR
  have hw3:=aA HW3.blk
  have hp3:=aA YR
  go_simp
  go_upto_region 10 with fail
  have y4:=cell_regrown c4
  have z2:=cell_regrown p2
  have z3:=cell_regrown p3
  clear c0 c1 c2 c3 c4 c5 c6 c7 c8 c9 p0 p1 p2 p3 p4 p5 p6 p7 p8 p9 oD
  refine bV 13 Aab ?_
  show fD _ _ _ _ _ 15 (Array.replicate 15 false) _ _
  refine tk [0,1,2,3,4,5,6,7,8,9] ?_
  iterate 10 (refine su (λK hK=>?_);go_simp;refine hK _ ?_;clear hK K)
  refine jc ?_
  clear y4 z2 z3
  refine dM 10 rfl Aab Aad (λx hx=>?_)
  go_simp
  have HX:=Hq (HW3.step hx)
  refine(Rv x _ HX).mono ?_
  rintro e y ⟨a,cp,g5,hg5,rfl,hp,hby⟩
  refine⟨hby,?_⟩
  have hgx:g < x.heap.size:=Nat.lt_of_lt_of_le (aA NC) hx.size
  have HGX:=Hq (ay NC (Ge.trans hx hby))
  have HST:=Hq (λu (hu:Ge y u)=>VP (cp:=cp) HX (hby.trans (hu.mono hby.size)) hg5 (hp.below hu))
  clear hby hg5 hp Rv hx NC YR
  refine tk [11,12] ?_
  iterate 2 (refine su (λK hK=>?_);go_simp;refine hK _ ?_;clear hK K)
  refine jc ?_
  refine bf Aab (λu hu=>?_)
  refine aF 13 rfl Aab Aad ?_
  go_simp
  refine(HST u hu).mono ?_
  rintro e z9 ⟨rfl,A',G',c',hZ9,Er,Xj⟩
  have hc9:c' g=9:=(Xj g hgx).trans hcg
  have HZ9:=Hq hZ9
  have HG9:=Hq (Er g _ aBg (ay HGX hu))
  clear hZ9 HST hu Er HGX HX HW3 Xj hcg hgx
  obtain⟨rl,rb⟩:=r
  dsimp only at HZ9 HAD HRL ⊢
  refine aF 14 rfl Aab Aad ?_
  go_simp
  refine wpAny_done Aab ?_
  go_simp
  have h9l:=aA HG9
  obtain⟨s0,s1,s2,s3⟩:=gP HG9
  have sf3:=aj HG9 3
  cases rb
  .rw [if_neg Aac] at HZ9;have hrl:=ah HRL rfl;subst hrl;rw [if_neg Aac] at HAD;have ak2:=Hq (HZ9.kc (k:=9) (KC.set (i:=3) (v:= .int .i64 1) hc9) Aaa);have akD:=Hq (ayx (u:= .int .i64 1) HG9);clear HZ9;go_upto_region 12 with fail;refine wp_at (λY hY=>?_);have azd:Hid (WK w0 Y wb n A' G' c' v L):=by rw [hY];exact ak2
   have akE:Hid (Y.heap[g]?=some (.cells (eG no k nn 1) 97 (0,0))):=by rw [hY];exact akD
   clear hY ak2 akD HG9 s0 s1 s2 s3 sf3 h9l;have h9l:=aA akE;obtain⟨s0,s1,s2,s3⟩:=gP akE;have HKP:=Hq (ac6 w0 Y wb n A' G' c' v L ⟨no,k,nn,1⟩ i hil hlen azd);rw [ah HKN] at HKP;exact axP
  .rw [if_pos rfl] at HZ9;rw [if_pos rfl] at HAD;have HKP:=Hq (ac6 w0 z9 wb (setPu n rl) A' G' c' v L ⟨no,k,nn,0⟩ i hil hlen HZ9);have hki:Db (setPu n rl) ⟨no,k,nn,0⟩ i=nA (setPu n rl) ⟨no,k,nn,0⟩:=ah HKI rl 0;rw [hki] at HKP;clear hki;exact axP):P:=h
theorem afb(h:P:=by
 have HF:=Hq hf;have aiE:=Hq (Vx mp mb n0 _ G ⟨pk,qm,qf,qs⟩ w6 hkey hn0 Ce.blk Ce.map);have Zv:=Hq Ce;obtain⟨⟨p0,p1,p2,p3⟩,_⟩:=gG ajG;clear hf Ce ajG;go_wp2_with fail;refine aiE.mono ?_;rintro e w7 ⟨rfl,hm7,hk7⟩;have HP7:=Hq (Zv.turned hk7 hm7);have ze:=Hq (vP.trans (Dc hk7 Zv.lom (Nat.le_trans hB vP.size)));clear hm7 hk7 p0 p1 p2 p3;go_wp2_with fail;go_ret;exact AdO):P:=h
theorem apF.AdO(h:P:=by
 exact⟨ze,.inr ⟨.inr h20,rfl,_,HP7⟩⟩):P:=h
theorem apG.AdO(h:P:=by
 exact⟨ze,.inr ⟨.inl HF,rfl,_,HP7⟩⟩):P:=h
theorem OA(h:P:=by
 go_wp2_with fail;refine H.mono ?_;rintro e w1 ⟨v,rfl,hv,hown,hb⟩;have HV:=Hq hv;have HO:=Hq hown;have HB:=Hq hb;clear hown hb hv;go_wp2_with fail;exact Aa5):P:=h
theorem apH.Aa5(h:P:=by
 exact bodyPost_ret (v:= .tuple #[v,.bool r.2]) (by simp[results,results118,go_sem]) rfl ⟨v,rfl,HV,HO,HB⟩):P:=h
theorem apI.Aa5(h:P:=by
 exact bodyPost_ret (v:= .tuple #[v,.bool r.2]) (by simp[results,results117,go_sem]) rfl ⟨v,rfl,HV,HO,HB⟩):P:=h
theorem apJ.Aa5(h:P:=by
 exact bodyPost_ret (v:= .tuple #[v,.bool r.2]) (by simp[results,results121,go_sem]) rfl ⟨v,rfl,HV,HO,HB⟩):P:=h
theorem apK.Aa5(h:P:=by
 exact bodyPost_ret (v:= .tuple #[v,.bool r.2]) (by simp[results,results98,go_sem]) rfl ⟨v,rfl,HV,HO,HB⟩):P:=h
theorem apL.Aa5(h:P:=by
 exact bodyPost_ret (v:= .tuple #[v,.bool r.2]) (by simp[results,results38,go_sem]) rfl ⟨v,rfl,HV,HO,HB⟩):P:=h
theorem afc(h:P:=by
 rw [hlt1] at LC LA;refine Lib.wp_append_run x3 (.tmp 127) (.tmp 130) 24 24 rfl _ _ Aaj Aaj v3 y3 LC ?_;refine⟨(Below.refl _ _).grown yu Cg (λb hb=>(BI.lt b hb).1),?_⟩;go_simp;have Wh:=Hq (zf.grown yu Cg (λb hb=>(BI.lt b hb).1));have Ww:Hid (y3.ownsRow vw.heap.size 3 1 v3 (pos) (GR.flat aS ((bg s0 mL).take pos))):=Hq (by simpa [GR.flat_nil] using LA);exact AeO):P:=h
theorem apM.AeO(h:P:=by
 have Hf:=Hq (show y3.heap[x2.heap.size]?=some (.cells #[.int .i64 mI] 3 (0,0)) from by rw [yu.block _ (aA (ah xY)) (λhm=>ah KJ _ hm.symm rfl)];exact xY);open atQ in exact aak):P:=h
theorem apN.AeO(h:P:=by
 have Hf:=Hq (show y3.heap[x1.heap.size]?=some (.cells #[.int .i64 mI] 3 (0,0)) from by rw [yu.block _ (aA (ah xY)) (λhm=>ah KJ _ hm.symm rfl)];exact xY);open atN in exact aaj):P:=h
theorem afd(h:P:=by
 obtain⟨i,hi,hcmp⟩:=Option.map_eq_some_iff.1 Is.comp;obtain⟨j,hj,hjs⟩:=Option.map_eq_some_iff.1 Is.size;have h8:= @run_callFunc_extern prog 263 _ Extern.ReflectliteType.typeOf func263 Aab Aab Aab Aab;have h32:= @run_callFunc_extern prog 309 _ Is.cmp func309 Aab Aab Aab Aab;have tT:=Is.typeOf;have cT:=Is.comparable;have mR:=Is.methodComparable;exact AeL):P:=h
theorem apO.AeL(h:P:=by
 have nE:=Is.noIs;have uE:=Is.noUnwrap;have vE:=Is.noUnwraps;have heq:=run_eql_iface_ptr_other (P:=prog) w underlying248 underlying338 hi hcmp hj (by rw [hjs];decide) hne ha hb;exact ahr):P:=h
theorem apP.AeL(h:P:=by
 have heq:=run_eql_iface_ptr_same (P:=prog) w a underlying248 underlying338 hi hcmp hj;exact ahr):P:=h
theorem ZX(h:P:=by
 refine pO 0 rfl Aab Aab Aab (λ_ _ _ _ h=>h) (λK hK=>?_);go_simp
 first
  |(refine hK _ ?_;clear hK K)
  |(apply Exists.intro
    refine⟨λ_=>rfl,hK _ ?_⟩
    clear hK K)
 exact AcB):P:=h
theorem apQ.AcB(h:P:=by
 refine rQ 7 ?_;refine tk [1,2,3,4,5] ?_;iterate 5 (refine su (λK hK=>?_);go_simp;refine hK _ ?_;clear hK K)
 refine jc ?_;clear y9 z0 z1 z2 z3 z4 z5 z6;refine dM 6 rfl Aab Aad (λx hx=>?_);go_simp;refine⟨au x _,?_⟩;have JD:=Hq ((HSW.step hx).step (au x (.cells (cK mK mF mT mI mL mk mN) 32)));have gU:=Hq (heap_alloc_new x (.cells (cK mK mF mT mI mL mk mN) 32));have hbs:w0.heap.size<=x.heap.size:=(HSW.step hx).keep.size;clear hx HSW HXW iA HS;generalize x.alloc (.cells (cK mK mF mT mI mL mk mN) 32)=y at *;refine bf Aab (λz hz=>?_);have JE:=Hq (JD.step hz);have Eh:=Hq (ay gU hz);clear hz JD gU;refine aF 7 rfl Aab Aad ?_;refine pV z (.tmp 12) (.tmp 14) 37 rfl w0.heap.size 32 i0 (.agg (cK 0 0 0 0 0 ByteArray.empty 0)) 7 64 underlying37 hi hz0 hz1 hz2 rfl Aae (.slice va L.length vc) L.length (GR.flat lF L) Aaj JE.m ⟨x.heap.size,0,none⟩ 1 1 (lF ⟨mK,mF,mT,mI,mL,mk,mN⟩) Aaj rfl (World.news_of_block Eh) (O4 _) Aah Aaa JE.keep.size ?_;intro v6 w6 hown6 rA Pp;obtain⟨va6,vc6,hv6,_⟩:=GR.own_at (enc:=lF) (sz:=7) (l:=L++[⟨mK,mF,mT,mI,mL,mk,mN⟩]) oW (by rw [List.length_append,jd];exact hown6);rw [List.length_append] at hv6;have hv7:v6= .slice va6 (L.length+1) vc6:=hv6;subst hv7;clear hv6;obtain⟨hb6,hS6⟩:=JE.app ⟨mK,mF,mT,mI,mL,mk,mN⟩ hown6 rA Pp;have KU:=Hq hS6;obtain⟨k0,k1,k2,k3,k4,k5,k6,k7,k8,k9⟩:=jr hb6;have kf:=aj hb6 9;clear hown6 rA Pp hb6 hS6 JE Eh;refine aF 8 rfl Aab Aad ?_;go_simp;refine aF 9 rfl Aab Aad ?_;go_simp;refine aF 10 rfl Aab Aad ?_;go_simp;refine wpAny_done Aab ?_;go_simp;go_wp2_with fail;exact bodyPost_end (v:= .tuple #[]) (by simp[results,results125,go_sem]) rfl ⟨rfl,_,_,KU⟩):P:=h
theorem apR.AcB(h:P:=by
 refine rQ 9 ?_;refine tk [1,2,3,4,5,6,7] ?_;iterate 7 (refine su (λK hK=>?_);go_simp;refine hK _ ?_;clear hK K)
 refine jc ?_;clear y8 z0 z1 z2 z3;refine dM 8 rfl Aab Aad (λx hx=>?_);go_simp;refine⟨au x _,?_⟩;have HX:=Hq ((HW1.step hx).step (au x (.cells (eG q.no q.k q.n q.s) 97)));have HN:=Hq (heap_alloc_new x (.cells (eG q.no q.k q.n q.s) 97));have HRL:=Hq (show∀y,(Value.slice A.r n.reqs.length A.cr).ownBlock=some y->x.heap.size≠y from λy hy=>by have:=((HW1.step hx).no.r.lt y hy).2;omega);clear hx HW HW1 xB;generalize x.alloc (.cells (eG q.no q.k q.n q.s) 97)=x1 at *;refine bf Aab (λu hu=>?_);have HU:=Hq (HX.step hu);have HNU:=Hq (ay HN hu);clear hu HX HN;refine aF 9 rfl Aab Aad ?_;go_simp;refine(ajM w0.heap.size A.r A.cr i n.reqs q x.heap.size u Aaa hi HU.keep.size HU.no.r HNU HRL).mono ?_;rintro e w6 ⟨a6,c6,rfl,hown6,rA,Pp⟩;obtain⟨hb6,RA⟩:=HU.reqPut hown6 rA Pp;have U9:=Hq RA;obtain⟨k0,k1,k2,k3,k4,k5,k6,k7,k8,k9⟩:=jr hb6;have kf:=aj hb6 8;have hw6:=aA hb6;clear hown6 rA Pp hb6 RA HU HNU HRL;rw [hlen] at U9 ⊢;refine aF 10 rfl Aab Aad ?_;go_simp;refine aF 11 rfl Aab Aad ?_;go_simp;refine aF 12 rfl Aab Aad ?_;go_simp;refine aF 13 rfl Aab Aad ?_;go_simp;refine wpAny_done Aab ?_;go_simp;go_upto_region 2 with fail;refine wp_at (λV hV=>?_);have HV:Hid (WK w0 V wb (eH n (qH n.reqs i q)) ⟨A.k,A.p,A.o,A.s,a6,A.ck,A.cp,A.co,A.cs,c6⟩ G (newC u.heap.size 6 c) v L):=by rw [hV];exact U9
 clear hV U9 k0 k1 k2 k3 k4 k5 k6 k7 k8 k9 kf hw6;have hl2:(eH n (qH n.reqs i q)).reqs.length=n.reqs.length+1:=hlen;obtain⟨d0,d1,d2,d3,d4,d5,d6,d7,d8,d9⟩:=jr HV.blk;rw [hl2] at d8;have hVl:=aA HV.blk;by_cases ah7:30 < n.reqs.length+1
 case' neg=>
  have hm2:¬((30:Int) < (n.reqs.length:Int)+1):=Aaa
  have HK:=Hq (show Db n q i=eH n (qH n.reqs i q) by unfold Db;rw [hlen,if_neg ah7])
  go_wp2_with fail
  exact bodyPost_end (v:= .tuple #[]) (by simp[results,results166,go_sem]) rfl ⟨rfl,_,_,_,by rw [ah HK];exact HV⟩
 have hm2:(30:Int) < (n.reqs.length:Int)+1:=Aaa
 obtain⟨g,hAr,hgw,hgl,⟨q0,_,_,_⟩,_⟩:=HV.reqRow 0 Aaa;dsimp only at hAr;subst hAr;have hz8:(0:Int) < (n.reqs.length:Int)+1:=Aaa
 have HK:=Hq (show Db n q i=eH (nJ n (eH n (qH n.reqs i q)).reqs[0].no) ((qH n.reqs i q).drop 1) by
  unfold Db
  rw [hlen,if_pos ah7]
  congr 2
  show((qH n.reqs i q).headD default).no=(qH n.reqs i q)[0].no
  rw [List.headD_eq_head?_getD,List.head?_eq_getElem?,List.getElem?_eq_getElem Aaa]
  rfl)
 generalize (eH n (qH n.reqs i q)).reqs[0].no=old at *;rw [Nat.zero_mul] at q0;have vf7:=aj HV.blk 7;have vf8:=aj HV.blk 8;have HO:=Hq (HV.oldPut old);go_upto_region 4 with fail;refine wp_at (λV2 hV2=>?_);have HV2:Hid (WK w0 V2 wb (nJ (eH n (qH n.reqs i q)) old) ⟨A.k,A.p,A.o,A.s,some ⟨g,0,none⟩,A.ck,A.cp,A.co,A.cs,c6⟩ G (newC u.heap.size 6 c) v L):=by rw [hV2];exact HO
 clear hV2 HO HV d0 d1 d2 d3 d4 d5 d6 d7 d8 d9 q0 vf7 vf8 hVl;have hl3:(nJ (eH n (qH n.reqs i q)) old).reqs.length=n.reqs.length+1:=hlen;obtain⟨d0,d1,d2,d3,d4,d5,d6,d7,d8,d9⟩:=jr HV2.blk;rw [hl3] at d8;have hVl:=aA HV2.blk;have HD:=Hq (aji w0.heap.size (some ⟨g,0,none⟩) c6 (qH n.reqs i q) V2 Aaa Aaa HV2.no.r);rw [hlen] at HD;go_wp2_with fail;refine HD.mono ?_;rintro e w7 ⟨a7,c7,rfl,nu,ayb,ayp⟩;obtain⟨qE,Lp⟩:=HV2.reqPut nu (by rw [hl3];exact ayb) (by rw [hl3];exact ayp);have hl7:((qH n.reqs i q).drop 1).length=n.reqs.length:=by rw [List.length_drop,hlen];omega
 rw [hl7] at Lp;have HW7:=Hq Lp;obtain⟨k0,k1,k2,k3,k4,k5,k6,k7,k8,k9⟩:=jr qE;have kf:=aj qE 8;have hw7:=aA qE;clear nu ayb ayp qE Lp HV2 HD d0 d1 d2 d3 d4 d5 d6 d7 d8 d9;go_wp2_with fail;exact bodyPost_end (v:= .tuple #[]) (by simp[results,results166,go_sem]) rfl ⟨rfl,_,_,_,by rw [ah HK];exact HW7⟩):P:=h
theorem apS.AcB(h:P:=by
 refine rQ 8 ?_;refine tk [1,2,3,4,5] ?_;iterate 5 (refine su (λK hK=>?_);go_simp;refine hK _ ?_;clear hK K)
 refine jc ?_;clear y0;refine dM 6 rfl Aab Aad (λx hx=>?_);go_simp;refine(HO _ ((HH.keep1 (HF2.step hx).keep hfb hne))).mono ?_;rintro e y ⟨hcase,hby⟩;have HFX:=Hq (HF2.step hx);clear hx;rcases hcase with⟨hyes,rfl⟩|⟨hno,p,rfl⟩
 case' inr=>
  have HST:=Hq (HN hno)
  exact⟨rfl,.inr ⟨_,rfl⟩,HFX.found HS HST hby⟩
 have HST:=Hq (HY hyes);have UU:=Hq (gU HST);obtain⟨hz5,hz6⟩:=ah HGT HST;clear hyes HY HN gU HGT HO HF2;refine⟨hby,?_⟩;have HFY:=Hq (HFX.step hby);clear hby HFX;refine dM 7 rfl Aab Aad (λx2 hx2=>?_);go_simp;refine⟨au x2 _,?_⟩;have HFZ:=Hq ((HFY.step hx2).step (au x2 (.cells (cu K no k n mK mF mT mI mL mk mN) 34)));have Eh:=Hq (heap_alloc_new x2 (.cells (cu K no k n mK mF mT mI mL mk mN) 34));clear hx2 HFY;generalize x2.alloc (.cells (cu K no k n mK mF mT mI mL mk mN) 34)=y2 at *;refine bf Aab (λu hu=>?_);have HFU:=Hq (HFZ.step hu);have HNU:=Hq (aJ Eh hu);clear hu HFZ Eh;have hLl:=ah HL;refine aF 8 rfl Aab Aad ?_;refine pV u (.tmp 37) (.tmp 40) 55 rfl (w.heap.size+1) 34 i0 (.agg (cu 0 0 ByteArray.empty 0 0 0 0 0 0 ByteArray.empty 0)) 11 104 underlying55 hi hz0 hz1 hz2 rfl Aae (.slice va L.length vc) L.length (GR.flat nV L) Aaj HFU.own ⟨x2.heap.size,0,none⟩ 1 1 (nV ⟨K,no,k,n,⟨mK,mF,mT,mI,mL,mk,mN⟩⟩) Aaj rfl (World.news_of_block HNU) (O6 _) Aah Aaa (by have:=HFU.gl;omega) ?_;intro v6 w6 hown6 rA _;obtain⟨va6,vc6,hv6,_⟩:=GR.own_at (enc:=nV) (sz:=11) (l:=L++[⟨K,no,k,n,⟨mK,mF,mT,mI,mL,mk,mN⟩⟩]) jh (by rw [List.length_append,yt];exact hown6);rw [List.length_append] at hv6;have hv7:v6= .slice va6 (L.length+1) vc6:=hv6;subst hv7;clear hv6;obtain⟨hb6,hF6⟩:=HFU.app ⟨K,no,k,n,⟨mK,mF,mT,mI,mL,mk,mN⟩⟩ hown6 rA;have HF6:=Hq (hF6 z);obtain⟨k0,k1⟩:=Yz hb6;have kf0:=ah5 hb6 0;have kf1:=ah5 hb6 1;clear hown6 rA hb6 hF6 HFU HNU;refine aF 9 rfl Aab Aad ?_;go_simp;refine aF 10 rfl Aab Aad ?_;go_simp;refine aF 11 rfl Aab Aad ?_;go_simp;refine wpAny_done Aab ?_;go_simp;go_wp2_with fail;go_roundw
 case rel=>exact⟨z,_,_,HF6,UU⟩
 case measure=>
  have h1:=ah HEA;have h2:=HF6.endOf;rw [h1,h2];omega):P:=h
theorem afe(h:P:=by
 clear hm hM;go_in
 go_wp2_with fail;refine(HN _).mono ?_;rintro e w1 ⟨rfl,hb1⟩;rw [hno];obtain⟨hA,hz,hbel⟩:=Fo.one_block hb1;obtain⟨⟨p0,p1,p2,p3⟩,_⟩:=gG hA;have hm1:w1.heap[mp]?=some (.cells #[v,.map (some mb)] 306 (0,0)):=by rw [hbel.block _ hmp];exact HM
 obtain⟨⟨m0,m1⟩,_⟩:=nM hm1;have hI1:iN w1.drew mb n G:=HI.kept (by rw [<-hbel.block _ hmb];rfl);exact AeX):P:=h
theorem apT.AeX(h:P:=by
 obtain⟨w2,hrun,hI2,hK2⟩:=ah HST _ 0 hI1;have HI2:=Hq (hI2.mono (Nat.le_succ n));have qY:=Hq ((Keeps.of_below (g:=mb) hbel).trans (Keeps.trans (b:=w1.drew) (Keeps.of_below (Below.refl _ _).drew) hK2));clear hb1 hA hbel hm1 hI1 hI2 hK2 HST HN;go_wp2_with fail;go_region
 all_goals
  go_wp2_with fail
  exact bodyPost_ret (v:= .tuple #[]) (by simp[results,results259,go_sem]) rfl ⟨rfl,HI2,qY⟩):P:=h
theorem apU.AeX(h:P:=by
 obtain⟨w2,hrun,hI2,hK2⟩:=ah HST _ hI1;have HI2:=Hq hI2;have qY:=Hq ((Keeps.of_below (g:=mb) hbel).trans (Keeps.trans (b:=w1.drew) (Keeps.of_below (Below.refl _ _).drew) hK2));clear hb1 hA hbel hm1 hI1 hI2 hK2 HST HN;go_wp2_with fail;go_region
 all_goals
  go_wp2_with fail
  exact bodyPost_end (v:= .tuple #[]) (by simp[results,results259,go_sem]) rfl ⟨rfl,HI2,qY⟩):P:=h
theorem OC(h:P:=by
 obtain⟨⟨c0,c1,c2,c3,c4,c5,c6,c7,c8,c9,c10⟩,f0,f1,f2,f3,f4,f5,f6,f7,f8,f9,f10⟩:=aQ qb.own;have hzg:=bH qb.own;go_wp2_with fail;exact Aa2):P:=h
theorem apV.Aa2(h:P:=by
 go_meet
 case rel=>exact⟨rfl,⟨K,no,k,n,⟨mK,9,mT,mI,mL,mk,mN⟩⟩,qb.put 5 (.int .i64 9) rfl,gs,gm⟩):P:=h
theorem apW.Aa2(h:P:=by
 go_meet
 case rel=>exact⟨rfl,⟨5,0,⟨#[]⟩,0,⟨0,0,0,0,0,⟨#[]⟩,0⟩⟩,qb.far (o':=⟨5,0,⟨#[]⟩,0,⟨0,0,0,0,0,⟨#[]⟩,0⟩⟩) (dw (Below.refl _ _) (Nat.le_refl _)) (gF qb.own),Aan,Aan⟩):P:=h
theorem apX.Aa2(h:P:=by
 go_meet
 case rel=>exact⟨rfl,⟨4,0,key,(1+y),⟨0,0,0,0,0,⟨#[]⟩,0⟩⟩,qb.far (o':=⟨4,0,key,(1+y),⟨0,0,0,0,0,⟨#[]⟩,0⟩⟩) (dw (Below.refl _ _) (Nat.le_refl _)) (gF qb.own),Aan,Aan⟩):P:=h
theorem apY.Aa2(h:P:=by
 go_meet
 case rel=>exact⟨rfl,⟨3,0,key,(1+y),⟨0,0,0,0,0,⟨#[]⟩,0⟩⟩,qb.far (o':=⟨3,0,key,(1+y),⟨0,0,0,0,0,⟨#[]⟩,0⟩⟩) (dw (Below.refl _ _) (Nat.le_refl _)) (gF qb.own),Aan,Aan⟩):P:=h
theorem apZ.Aa2(h:P:=by
 go_meet
 case rel=>exact⟨rfl,⟨0,0,key,(1+y),⟨0,0,0,0,0,⟨#[]⟩,0⟩⟩,qb.far (o':=⟨0,0,key,(1+y),⟨0,0,0,0,0,⟨#[]⟩,0⟩⟩) (dw (Below.refl _ _) (Nat.le_refl _)) (gF qb.own),Aan,Aan⟩):P:=h
theorem ZY(h:P:=by
 have Ww:=Hq (GR.own_below BI abp);have VZ:=Hq (show∀b,((.slice avR (pos) cvR:Value)).ownBlock=some b->b≠x3.heap.size from λb hb=>by have:=(BI.lt b hb).2;omega);have Wh:=Hq (zf.trans (abp.mono zf.size));clear abp;exact AcC):P:=h
theorem ap0.AcC(h:P:=by
 generalize abH:x3.alloc (.cells #[.int .i64 mI] 3)=y3 at *;clear abH;generalize x3.heap.size=rb at *;exact Zw3):P:=h
theorem ap1.AcC(h:P:=by
 generalize abH:x3.alloc (.cells (eG no k nn 1) 97)=y3 at *;clear abH;generalize x3.heap.size=rb at *;exact Zw2):P:=h
theorem ap2.AcC(h:P:=by
 generalize abH:x3.alloc (.cells (eG no k nn 0) 97)=y3 at *;clear abH;generalize x3.heap.size=rb at *;exact Zw1):P:=h
theorem xM(h:P:=by
 clear hr;go_in
 go_upto_region 11 with fail;refine wp_at (λV hV=>?_);exact AaS):P:=h
theorem ap3.AaS(h:P:=by
 have hblk:V.heap[w.heap.size]?=some (.cells (cK 2 F T I 0 ByteArray.empty 0) 32 (0,0)):=by rw [hV,Below.heap_alloc _ _ _ Aac];exact heap_alloc_new w _
 open azG in exact Yw6):P:=h
theorem ap4.AaS(h:P:=by
 have hblk:V.heap[w.heap.size]?=some (.cells (cK 2 F T I 0 ByteArray.empty N) 32 (0,0)):=by rw [hV,Below.heap_alloc _ _ _ Aac];exact heap_alloc_new w _
 open azH in exact Yw6):P:=h
theorem ap5.AaS(h:P:=by
 have hblk:V.heap[w.heap.size]?=some (.cells (cK 2 F T I L k N) 32 (0,0)):=by rw [hV,Below.heap_alloc _ _ _ Aac];exact heap_alloc_new w _
 open azJ in exact Yw6):P:=h
theorem ap6.AaS(h:P:=by
 have hblk:V.heap[w.heap.size]?=some (.cells (cK 2 F T I L k N) 32 (0,0)):=by rw [hV,Below.heap_alloc _ _ _ Aac];exact heap_alloc_new w _
 open anC in exact WB):P:=h
theorem ap7.AaS(h:P:=by
 have hblk:V.heap[w.heap.size]?=some (.cells (cK 1 F T I L k N) 32 (0,0)):=by rw [hV,Below.heap_alloc _ _ _ Aac];exact heap_alloc_new w _
 open anD in exact WB):P:=h
theorem ap8.AaS(h:P:=by
 have hblk:V.heap[w.heap.size]?=some (.cells (cK 1 F T I L k N) 32 (0,0)):=by rw [hV,Below.heap_alloc _ _ _ Aac];exact heap_alloc_new w _
 open anE in exact WB):P:=h
theorem ap9.AaS(h:P:=by
 have hblk:V.heap[w.heap.size]?=some (.cells (cK 0 F T 0 0 k N) 32 (0,0)):=by rw [hV,Below.heap_alloc _ _ _ Aac];exact heap_alloc_new w _
 open azS in exact aiL):P:=h
theorem aqa.AaS(h:P:=by
 have hblk:V.heap[w.heap.size]?=some (.cells (cK 0 F T 0 L k N) 32 (0,0)):=by rw [hV,Below.heap_alloc _ _ _ Aac];exact heap_alloc_new w _
 open azT in exact aiL):P:=h
theorem aqb.AaS(h:P:=by
 have hblk:V.heap[w.heap.size]?=some (.cells (cK 0 F T I L k N) 32 (0,0)):=by rw [hV,Below.heap_alloc _ _ _ Aac];exact heap_alloc_new w _
 open azU in exact aiL):P:=h
theorem aqc.AaS(h:P:=by
 have hblk:V.heap[w.heap.size]?=some (.cells (cK 0 F T I L k N) 32 (0,0)):=by rw [hV,Below.heap_alloc _ _ _ Aac];exact heap_alloc_new w _
 open anF in exact WB):P:=h
theorem aff(h:P:=by
 go_in
 go_wp2_with fail;generalize wrap64 (wrap64 (h*6364136223846793005)+1442695040888963407)=h';go_quiet (fail);go_wp2_with fail;have hx:=aaV (bits BinOp.xor IntKind.i64 (h' / 8589934592) (h' / 35184372088832));generalize bits BinOp.and IntKind.i64 (bits BinOp.xor IntKind.i64 (h' / 8589934592) (h' / 35184372088832)) 255=x at *;obtain⟨hx0,hx1⟩:=hx;go_quiet (fail);exact AeE):P:=h
theorem aqd.AeE(h:P:=by
 go_wp2
 go_ret;refine⟨x,rfl,hx0,hx1,?_,?_⟩
 .have:=SK (h':=h') HB hil hlen Jp;first|exact this|exact this.drewN
 .first|exact Keeps.set _|exact(Keeps.set _).drewN|exact(Keeps.set _).drewN.drewN):P:=h
theorem aqe.AeE(h:P:=by
 go_wp2_with fail;go_quiet (fail);have hy:=aaV (x+z);generalize bits BinOp.and IntKind.i64 (x+z) 255=y at *;obtain⟨hy0,hy1⟩:=hy;go_wp2
 go_ret;refine⟨y,rfl,hy0,hy1,?_,?_⟩
 .have:=WX (i':=i+1) (h':=h') HB Aaa hlen Jp;simp only[Int.natCast_add,Int.natCast_one] at this;first|exact this|exact this.drewN
 .first|exact((Keeps.set _).trans (Keeps.set _))|exact((Keeps.set _).trans (Keeps.set _)).drewN):P:=h
theorem Va(h:P:=by
 refine aF 3 rfl Aab Aad ?_;go_simp;open avB in exact aas):P:=h
theorem aqf.AbI(h:P:=by
 go_meet
 case rel=>exact⟨rfl,GR.setW_blk (gH n.id n.par a_k n.kids.length aL n.next av RL.length cv eD n.out.length aP eO n.seen.length aM IH.no (some ⟨g8,0,none⟩) n.reqs.length EW).toList (o:=0) (xs:=fU.toList) wK,(aC.of_below hg3).trans (aK (gH n.id n.par a_k n.kids.length aL n.next av RL.length cv eD n.out.length aP eO n.seen.length aM IH.no (some ⟨g8,0,none⟩) n.reqs.length EW).toList x3 0)⟩):P:=h
theorem aqg.AbI(h:P:=by
 go_meet
 case rel=>exact⟨rfl,GR.setW_blk (gH n.id n.par a_k n.kids.length aL n.next av RL.length cv eD n.out.length aP eO n.seen.length aM n.old (some ⟨gv,0,none⟩) (n.reqs.length+1) vc).toList (o:=0) (xs:=fU.toList) wK,(aC.of_below hg3).trans (aK (gH n.id n.par a_k n.kids.length aL n.next av RL.length cv eD n.out.length aP eO n.seen.length aM n.old (some ⟨gv,0,none⟩) (n.reqs.length+1) vc).toList x3 0)⟩):P:=h
theorem aqh.AbI(h:P:=by
 go_meet
 case rel=>exact⟨rfl,GR.setW_blk (gH n.id n.par a_k n.kids.length aL n.next (some ⟨gp,0,none⟩) n.pu.length bE eD n.out.length aP eO n.seen.length aM IH.no (some ⟨g8,0,none⟩) n.reqs.length EW).toList (o:=0) (xs:=fU.toList) wK,(aC.of_below hg3).trans (aK (gH n.id n.par a_k n.kids.length aL n.next (some ⟨gp,0,none⟩) n.pu.length bE eD n.out.length aP eO n.seen.length aM IH.no (some ⟨g8,0,none⟩) n.reqs.length EW).toList x3 0)⟩):P:=h
theorem aqi.AbI(h:P:=by
 go_meet
 case rel=>exact⟨rfl,GR.setW_blk (gH n.id n.par a_k n.kids.length aL n.next (some ⟨gp,0,none⟩) n.pu.length bE eD n.out.length aP eO n.seen.length aM n.old (some ⟨gv,0,none⟩) (n.reqs.length+1) vc).toList (o:=0) (xs:=fU.toList) wK,(aC.of_below hg3).trans (aK (gH n.id n.par a_k n.kids.length aL n.next (some ⟨gp,0,none⟩) n.pu.length bE eD n.out.length aP eO n.seen.length aM n.old (some ⟨gv,0,none⟩) (n.reqs.length+1) vc).toList x3 0)⟩):P:=h
theorem afg(h:P:=by
 obtain⟨c0,c1,c2,c3,c4,c5,c6,c7,c8⟩:=nine mV;have hnl:=aA mV;have aA7:decide ((30:Int) < ((n.reqs.length+1:Nat):Int))=false:=decide_eq_false Aaa;have hIT:IQ.length=n.reqs.length+1:=ah HLQ;clear HLQ;have Xg:=Hq hIT;clear hIT;go_upto_region 20 with fail;clear c0 c1 c2 c3 c4 c5 c6 c7 c8 hnl;obtain⟨c0,c1,c2,c3,c4,c5,c6,c7,c8⟩:=nine mV;exact AeK):P:=h
theorem aqj.AeK(h:P:=by
 open alc in exact Ht):P:=h
theorem aqk.AeK(h:P:=by
 open ale in exact Ht):P:=h
theorem afh(h:P:=by
 rw [hlt1] at LC LA;refine Lib.wp_append_run x3 (.tmp 93) (.tmp 97) 28 28 rfl _ _ Aaj Aaj v3 y3 LC ?_;refine⟨(Below.refl _ _).grown yu Cg (λb hb=>(BI.lt b hb).1),?_⟩;go_simp;have Wh:=Hq (zf.grown yu Cg (λb hb=>(BI.lt b hb).1));have Ww:Hid (y3.ownsRow wc.heap.size 97 4 v3 (pos) (GR.flat aN (n.reqs.take pos))):=Hq (by simpa [GR.flat_nil] using LA);exact AdR):P:=h
theorem aql.AdR(h:P:=by
 exact Afk):P:=h
theorem aqm.AdR(h:P:=by
 exact AeQ):P:=h
theorem Vb(h:P:=by
 obtain⟨avR,cvR,Pm,_⟩:=GR.own_at (enc:=aN) (sz:=4) (l:=n.reqs.take pos) bX (by rw [hlt1];exact Ww);rw [hlt1] at Pm;subst Pm;clear LC LA yu Tw;exact Aa9):P:=h
theorem aqn.Aa9(h:P:=by
 generalize x2.heap.size=rb at *;exact Zw2):P:=h
theorem aqo.Aa9(h:P:=by
 generalize x2.heap.size=rb at *;exact Zw1):P:=h
theorem aqp.Aa9(h:P:=by
 generalize x1.heap.size=rb at *;exact Zw2):P:=h
theorem aqr.Aa9(h:P:=by
 generalize x1.heap.size=rb at *;exact Zw1):P:=h
theorem afi(h:P:=by
 rintro e W3 ⟨A1,ma,mc,rfl,hat,hmt,hb3,hap⟩;have mO:=Hq ((hap _ (aA jU) (by rw [aZ Aaa];omega)).trans jU);have Za:=Hq hat;have adj:=Hq hmt;have HB3:=Hq ((HB2.mono hB).trans hb3);have HK3:Hid (Apart c w W3):=λx hx hc=>(hap x (Nat.lt_of_lt_of_le hx HB2.size) (by rw [eT hx];exact hc)).trans (HB2.block x hx)
 have h23:=hb3.size;have h02:=HB2.size;have h2r:=aA jU;exact Afb):P:=h
theorem aqs.Afb(h:P:=by
 clear hat hmt hb3 hap c0 c1 c2 c3 c4 c5 c6 c7 c8 m0 m1 m2 m3 m4 m5 m6 hml hnl UW kC zi jU NW;open arx in exact afD):P:=h
theorem aqt.Afb(h:P:=by
 clear hat hmt hb3 hap c0 c1 c2 c3 c4 c5 c6 c7 c8 m0 m1 m2 m3 m4 m5 m6 hml hnl HGV kC zi jU NW;obtain⟨A1,hA1⟩:∃A2,A2=A1:=⟨_,rfl⟩;subst hA1;have KO:=Hq (heap_alloc_new W3 (.cells (dD N1 A1) 30));have rT:=Hq (ay mO (au W3 (.cells (dD N1 A1) 30)));have vQ:=Hq (HB3.trans ((au W3 (.cells (dD N1 A1) 30)).mono (Nat.le_trans hB HB3.size)));have HKA:=Hq (HK3.step HB3.size (au W3 (.cells (dD N1 A1) 30)));obtain⟨c0,c1,c2,c3,c4,c5,c6,c7,c8⟩:=nine KO;open al7 in exact Wz):P:=h
theorem afj(h:P:=by
 obtain⟨e1,e2,e3,e4⟩:=gD w (.cells (dD n A) 30) (.cells (cu K no k nn mK mF mT mI mL mk mN) 34) (.cells fU 30);have hsz:(((w.alloc (.cells (dD n A) 30)).alloc (.cells (cu K no k nn mK mF mT mI mL mk mN) 34)).alloc (.cells fU 30)).heap.size=w.heap.size+3:=Aac
 generalize hW0:((w.alloc (.cells (dD n A) 30)).alloc (.cells (cu K no k nn mK mF mT mI mL mk mN) 34)).alloc (.cells fU 30)=W0 at *;exact AdF):P:=h
theorem aqu.AdF(h:P:=by
 open azZ in exact KV):P:=h
theorem aqv.AdF(h:P:=by
 open azY in exact KV):P:=h
theorem afk(h:P:=by
 obtain⟨e1,e2,e3,e4⟩:=gD w (.cells (dD n A) 30) (.cells (cu 4 no k nn mK mF mT mI mL mk mN) 34) (.cells fU 30);have hsz:(((w.alloc (.cells (dD n A) 30)).alloc (.cells (cu 4 no k nn mK mF mT mI mL mk mN) 34)).alloc (.cells fU 30)).heap.size=w.heap.size+3:=Aac
 generalize hW0:((w.alloc (.cells (dD n A) 30)).alloc (.cells (cu 4 no k nn mK mF mT mI mL mk mN) 34)).alloc (.cells fU 30)=W0 at *;exact AfF):P:=h
theorem aqw.AfF(h:P:=by
 exact awV):P:=h
theorem aqx.AfF(h:P:=by
 exact awU):P:=h
theorem afl(h:P:=by
 obtain⟨e1,e2,e3,e4⟩:=gD w (.cells (dD n A) 30) (.cells (cu 3 no k nn mK mF mT mI mL mk mN) 34) (.cells fU 30);have hsz:(((w.alloc (.cells (dD n A) 30)).alloc (.cells (cu 3 no k nn mK mF mT mI mL mk mN) 34)).alloc (.cells fU 30)).heap.size=w.heap.size+3:=Aac
 generalize hW0:((w.alloc (.cells (dD n A) 30)).alloc (.cells (cu 3 no k nn mK mF mT mI mL mk mN) 34)).alloc (.cells fU 30)=W0 at *;exact AdP):P:=h
theorem aqy.AdP(h:P:=by
 open az2 in exact KV):P:=h
theorem aqz.AdP(h:P:=by
 exact awV):P:=h
theorem afm(h:P:=by
 obtain⟨e1,e2,e3,e4⟩:=gD w (.cells (dD n A) 30) (.cells (cu 0 no k nn mK mF mT mI mL mk mN) 34) (.cells fU 30);have hsz:(((w.alloc (.cells (dD n A) 30)).alloc (.cells (cu 0 no k nn mK mF mT mI mL mk mN) 34)).alloc (.cells fU 30)).heap.size=w.heap.size+3:=Aac
 generalize hW0:((w.alloc (.cells (dD n A) 30)).alloc (.cells (cu 0 no k nn mK mF mT mI mL mk mN) 34)).alloc (.cells fU 30)=W0 at *;exact AeY):P:=h
theorem aqA.AeY(h:P:=by
 open az6 in exact KV):P:=h
theorem aqB.AeY(h:P:=by
 open az0 in exact KV):P:=h
theorem afn(h:P:=by
 refine xw 3 rfl Aab Aad (λx hx=>?_);go_simp;refine⟨au x _,?_⟩;have lU:=Hq (Ge.trans (Ge.trans vS hx) (au x (.cells #[.int .u8 K] 5)));have hcx:(x.alloc (.cells #[.int .u8 K] 5)).cell? ⟨x.heap.size,0,none⟩=some (.int .u8 K):=Aac
 have hcv:=λd os=>HCV (Sort.grow (redrawn (x.alloc (.cells #[.int .u8 K] 5)) d) os) x.heap.size (cell_regrown hcx d os)
 exact Ac8):P:=h
theorem aqC.Ac8(h:P:=by
 obtain⟨a1,a2,a3,a4⟩:=ah HA;clear hx vS HCV HA hcx;generalize hy:x.alloc (.cells #[.int .u8 K] 5)=y at *;refine tk [4,8,12,16,21,22] ?_;iterate 6 (refine vJ (λK hK=>?_);go_simp;refine hK _ ?_;clear hK K)
 refine jc ?_;refine fE Aab (λz hz=>?_);have pQ:=Hq (Ge.trans lU hz);clear hz lU hcv a1 a2 a3 a4;go_simp;go_wp2_with fail;go_ret;exact⟨rfl,pQ⟩):P:=h
theorem aqD.Ac8(h:P:=by
 obtain⟨a1,a2,a3,a4,a5,a6⟩:=ah HA;clear hx vS HCV HA hcx;generalize hy:x.alloc (.cells #[.int .u8 K] 5)=y at *;refine tk [4,8,12,16,20,24,28,29] ?_;iterate 8 (refine vJ (λK hK=>?_);go_simp;refine hK _ ?_;clear hK K)
 refine jc ?_;refine fE Aab (λz hz=>?_);have pQ:=Hq (Ge.trans lU hz);clear hz lU hcv a1 a2 a3 a4 a5 a6;go_simp;go_wp2_with fail;go_ret;exact⟨rfl,pQ⟩):P:=h
theorem afo(h:P:=by
 have q3s:=aa9 (g:=w.heap.size+2) (i:=3) (b0:= .int .i64 n.id) (b1:= .int .i64 n.par) (b2:= .slice a_k n.kids.length aL) (b3:= .int .i64 n.next) (b4:= .slice (some ⟨gp,0,none⟩) n.pu.length bE) (b5:= .slice eD n.out.length aP) (b6:= .slice eO n.seen.length aM) (b7:= .int .i64 n.old) (b8:= .slice (some ⟨gv,0,none⟩) (n.reqs.length+1) vc) (show w.heap.size+2≠W1.heap.size by omega) RH;exact AeZ):P:=h
theorem aqE.AeZ(h:P:=by
 open amF in exact OG):P:=h
theorem aqF.AeZ(h:P:=by
 go_simp;refine aF 1 rfl Aab Aad ?_;open amG in exact OG):P:=h
theorem afp(h:P:=by
 have q3s:=aa9 (g:=w.heap.size+2) (i:=3) (b0:= .int .i64 n.id) (b1:= .int .i64 n.par) (b2:= .slice a_k n.kids.length aL) (b3:= .int .i64 n.next) (b4:= .slice (some ⟨gp,0,none⟩) n.pu.length bE) (b5:= .slice eD n.out.length aP) (b6:= .slice eO n.seen.length aM) (b7:= .int .i64 IH.no) (b8:= .slice (some ⟨g8,0,none⟩) n.reqs.length EW) (show w.heap.size+2≠W1.heap.size by omega) RH;exact AeM):P:=h
theorem aqG.AeM(h:P:=by
 open amD in exact OG):P:=h
theorem aqH.AeM(h:P:=by
 go_simp;refine aF 1 rfl Aab Aad ?_;open amE in exact OG):P:=h
theorem afq(h:P:=by
 go_simp;have Bz:=Hq (V7.trans (hx1.mono V7.size));have abE:vw.heap.size<=x1.heap.size:=Bz.size;clear hx1;refine⟨(au x1 _).mono abE,?_⟩;exact AfD):P:=h
theorem aqI.AfD(h:P:=by
 have zK:=au x1 (.cells #[.int .i64 mI] 3);have adx:=Hq (heap_alloc_new x1 (.cells #[.int .i64 mI] 3));have zh:=Hq (Bz.trans (zK.mono Bz.size));clear zK;generalize Pq:x1.alloc (.cells #[.int .i64 mI] 3)=y1 at *;clear Pq;refine fC 0 rfl Aab Aad Aae (λx2 hx2=>?_);go_simp;have vT:=Hq (zh.trans (hx2.mono zh.size));have vY:vw.heap.size<=x2.heap.size:=vT.size;have aiI:=Hq (ay adx hx2);clear hx2;refine⟨(au x2 _).mono vY,?_⟩;have H6:=au x2 (.cells #[] 3);have Hr:=Hq (show(x2.alloc (.cells #[] 3)).ownsRow vw.heap.size 3 1 (.slice (some ⟨x2.heap.size,0,none⟩) 0 0) 0 (GR.flat aS []) from World.ownsRow_lit (base:=vw.heap.size) (e:=3) (size:=1) x2 #[] 0 vY Aah Aac);open asF in exact afX):P:=h
theorem aqJ.AfD(h:P:=by
 have zK:=au x1 (.cells #[] 3);have adF:=Hq (show(x1.alloc (.cells #[] 3)).ownsRow vw.heap.size 3 1 (.slice (some ⟨x1.heap.size,0,none⟩) 0 0) 0 (GR.flat aS []) from World.ownsRow_lit (base:=vw.heap.size) (e:=3) (size:=1) x1 #[] 0 abE Aah Aac);have zh:=Hq (Bz.trans (zK.mono Bz.size));clear zK;generalize Pq:x1.alloc (.cells #[] 3)=y1 at *;clear Pq;refine iU 4 7 rfl rfl Aab Aad Aad Aae Aae (λx2 hx2=>?_) (λx2 hx2=>?_)
 .have vT:=Hq (zh.trans (hx2.mono zh.size));have vY:vw.heap.size<=x2.heap.size:=vT.size;have Ho:=Hq (GR.own_below adF hx2);clear hx2;obtain⟨v2,y2,Xp,Xo,Xm,ayq⟩:=fK aR Aaa x2 vw.heap.size 24 24 3 i0 (.int .i64 0) 8 underlying24 hi0 hz0 hz1' hz2 rfl (.slice (some ⟨x1.heap.size,0,none⟩) 0 0) 0 (GR.flat aS ([])) Ho (some ⟨gi,0,none⟩) ((bg s0 mL).take pos) OV (GR.At.below Hl vT) (rF _) Aah Aaa vY;rw [hlt1] at Xp Xo;refine Lib.wp_append_run x2 (.tmp 127) (.tmp 130) 24 24 rfl _ _ Aaj Aaj v2 y2 Xp ?_;refine⟨(Below.refl _ _).grown Xm vY (λb hb=>(Ho.lt b hb).1),?_⟩;go_simp;have KN:=Hq (vT.grown Xm vY (λb hb=>(Ho.lt b hb).1));have Hr:Hid (y2.ownsRow vw.heap.size 3 1 v2 (pos) (GR.flat aS ((bg s0 mL).take pos))):=Hq (by simpa [GR.flat_nil] using Xo);obtain⟨avR,cvR,abC,_⟩:=GR.own_at (enc:=aS) (sz:=1) (l:=(bg s0 mL).take pos) aR (by rw [hlt1];exact Hr);open ave in exact agH
 .go_simp;have vT:=Hq (zh.trans (hx2.mono zh.size));have vY:vw.heap.size<=x2.heap.size:=vT.size;have Ho:=Hq (GR.own_below adF hx2);clear hx2;refine⟨(au x2 _).mono vY,?_⟩;have H6:=au x2 (.cells #[.int .i64 mI] 3);have Zy:=Hq (heap_alloc_new x2 (.cells #[.int .i64 mI] 3));open ao1 in exact aiW):P:=h
theorem afr(h:P:=by
 open avW in exact agV):P:=h
theorem aqK.Ac4(h:P:=by
 exact axk):P:=h
theorem aqL.Ac4(h:P:=by
 open auh in exact OD):P:=h
theorem afs(h:P:=by
 generalize DV s=RES at *;generalize jF s=OK at *;generalize tF s (gW s 0)=N1 at *;generalize tF s (gW s 1)=N2 at *;generalize tF s (gW s 2)=N3 at *;generalize tF s (gW s 3)=N4 at *;generalize tF s (iW s (gW s 4))=N5 at *;generalize jJ s (gW s 4)=TX at *;generalize iV s (iW s (gW s 4))=E6 at *;generalize iW s (gW s 4)=E5 at *;generalize gW s 4=E4 at *;exact Aef):P:=h
theorem aqM.Aef(h:P:=by
 go_in
 go_wp2_with fail;refine(HN _).mono ?_;rintro e w1 ⟨g,cap,rfl,hg1,hc1,hb1⟩;have hR1:=aJ (heap_alloc_new w _) hb1;have hB1:=(au w _).trans (hb1.mono Aac);have hC1:=Hq hc1;clear hb1 hc1;go_wp2_with fail;refine(HT _).mono ?_;rintro e w2 ⟨rfl,hb2⟩;have hR2:=aJ hR1 hb2;have hB2:=hB1.trans (hb2.mono hB1.size);have hg2:=Nat.lt_of_lt_of_le hg1 hb2.size;have hC2:=Hq (show w2.cell? ⟨g,0,none⟩=some (.int .i64 N1)/\w2.cell? ⟨g,1,none⟩=some (.int .i64 N2)/\w2.cell? ⟨g,2,none⟩=some (.int .i64 N3)/\w2.cell? ⟨g,3,none⟩=some (.int .i64 N4) by simp only[(CS hb2).1 g _ hg1];exact hC1);clear hb2 hR1 hB1 hg1 hC1;go_wp2_with fail;refine(HG _).mono ?_;rintro e w3 ⟨rfl,hb3⟩;have hR3:=aJ hR2 hb3;have hB3:=hB2.trans (hb3.mono hB2.size);have hg3:=Nat.lt_of_lt_of_le hg2 hb3.size;have hC3:w3.cell? ⟨g,0,none⟩=some (.int .i64 N1)/\w3.cell? ⟨g,1,none⟩=some (.int .i64 N2)/\w3.cell? ⟨g,2,none⟩=some (.int .i64 N3)/\w3.cell? ⟨g,3,none⟩=some (.int .i64 N4):=by simp only[(CS hb3).1 g _ hg2];exact hC2
 obtain⟨c0,c1,c2,c3⟩:=hC3;clear hb3 hR2 hB2 hg2 hC2;have HR3:=Hq hR3;have HB3:=Hq hB3;clear hR3 hB3;open asx in exact Vi):P:=h
theorem aqN.Aef(h:P:=by
 generalize gW s 3=E3 at *;generalize gW s 2=E2 at *;generalize gW s 1=E1 at *;rw [ez] at Zi;clear ez hs;have HH:=Hq hH;clear hH;go_in
 go_upto_region 4 with fail;refine wp_at (λV0 hV=>?_)
 have hM0:V0.heap[w.heap.size+1]?=some (.cells (cK (s[0].toNat:Int) 0 0 0 0 ⟨#[]⟩ 0) 32 (0,0)):=by
  rw [hV];have h:=heap_alloc_new (w.alloc (.cells (cK 0 0 0 0 0 ⟨#[]⟩ 0) 32)) (.cells (cK (s[0].toNat:Int) 0 0 0 0 ⟨#[]⟩ 0) 32);rwa [show(w.alloc (.cells (cK 0 0 0 0 0 ⟨#[]⟩ 0) 32)).heap.size=w.heap.size+1 by simp] at h
 have hR0:V0.heap[w.heap.size]?=some (.cells (cK 0 0 0 0 0 ⟨#[]⟩ 0) 32 (0,0)):=by rw [hV,Below.heap_alloc _ _ _ Aac];exact heap_alloc_new w _
 have hB0:aY w V0:=by rw [hV];exact((Below.refl _ _).alloc (Nat.le_refl _) _).alloc Aac _
 clear hV hw64 hb0;have HM0:=Hq hM0;have HR0:=Hq hR0;have HB0:=Hq hB0;clear hM0 hR0 hB0;go_wp2_with fail;refine(Zi _ (HH.below HB0)).mono ?_;rintro e x1 ⟨rfl,hb1⟩;have gM1:=aJ HM0 hb1;have gR1:=aJ HR0 hb1;have gB1:=HB0.trans (hb1.mono HB0.size);obtain⟨⟨c0,c1,c2,c3,c4,c5,c6⟩,f0,f1,f2,f3,f4,f5,f6⟩:=dQ gM1;have hz1:=bH gM1;have GM1:=Hq gM1;have GR1:=Hq gR1;have GB1:=Hq gB1;clear hb1 HM0 HR0 HB0 gM1 gR1 gB1 Zi;go_upto_region 5 with fail;refine wp_at (λV1 hV=>?_);have hM1:V1.heap[w.heap.size+1]?=some (.cells (cK (s[0].toNat:Int) N1 0 0 0 ⟨#[]⟩ 0) 32 (0,0)):=by rw [hV];exact blk_set GM1 1 (.int .i64 N1)
 have hR1:V1.heap[w.heap.size]?=some (.cells (cK 0 0 0 0 0 ⟨#[]⟩ 0) 32 (0,0)):=by rw [hV];exact one_other GR1 Aaa
 have hB1:aY w V1:=by rw [hV];exact GB1.setCell (p:=⟨w.heap.size+1,1,none⟩) (Nat.le_succ _) (.int .i64 N1)
 clear hV GM1 GR1 GB1 c0 c1 c2 c3 c4 c5 c6 f0 f1 f2 f3 f4 f5 f6 hz1;have HM1:=Hq hM1;have HR1:=Hq hR1;have HB1:=Hq hB1;clear hM1 hR1 hB1;go_wp2_with fail;refine(HG2 _ (HH.below HB1)).mono ?_;rintro e x2 ⟨rfl,hb2⟩;have gM2:=aJ HM1 hb2;have gR2:=aJ HR1 hb2;have gB2:=HB1.trans (hb2.mono HB1.size);obtain⟨⟨c0,c1,c2,c3,c4,c5,c6⟩,f0,f1,f2,f3,f4,f5,f6⟩:=dQ gM2;have hz2:=bH gM2;have GM2:=Hq gM2;have GR2:=Hq gR2;have GB2:=Hq gB2;clear hb2 HM1 HR1 HB1 gM2 gR2 gB2 HG2;go_upto_region 6 with fail;refine wp_at (λV2 hV=>?_);have hM2:V2.heap[w.heap.size+1]?=some (.cells (cK (s[0].toNat:Int) N1 N2 0 0 ⟨#[]⟩ 0) 32 (0,0)):=by rw [hV];exact blk_set GM2 2 (.int .i64 N2)
 have hR2:V2.heap[w.heap.size]?=some (.cells (cK 0 0 0 0 0 ⟨#[]⟩ 0) 32 (0,0)):=by rw [hV];exact one_other GR2 Aaa
 have hB2:aY w V2:=by rw [hV];exact GB2.setCell (p:=⟨w.heap.size+1,2,none⟩) (Nat.le_succ _) (.int .i64 N2)
 clear hV GM2 GR2 GB2 c0 c1 c2 c3 c4 c5 c6 f0 f1 f2 f3 f4 f5 f6 hz2;have HM2:=Hq hM2;have HR2:=Hq hR2;have HB2:=Hq hB2;clear hM2 hR2 hB2;go_wp2_with fail;refine(NC _ (HH.below HB2)).mono ?_;rintro e x3 ⟨rfl,hb3⟩;have gM3:=aJ HM2 hb3;have gR3:=aJ HR2 hb3;have gB3:=HB2.trans (hb3.mono HB2.size);obtain⟨⟨c0,c1,c2,c3,c4,c5,c6⟩,f0,f1,f2,f3,f4,f5,f6⟩:=dQ gM3;have hz3:=bH gM3;have GM3:=Hq gM3;have GR3:=Hq gR3;have GB3:=Hq gB3;clear hb3 HM2 HR2 HB2 gM3 gR3 gB3 NC;go_upto_region 7 with fail;refine wp_at (λV3 hV=>?_);have hM3:V3.heap[w.heap.size+1]?=some (.cells (cK (s[0].toNat:Int) N1 N2 N3 0 ⟨#[]⟩ 0) 32 (0,0)):=by rw [hV];exact blk_set GM3 3 (.int .i64 N3)
 have hR3:V3.heap[w.heap.size]?=some (.cells (cK 0 0 0 0 0 ⟨#[]⟩ 0) 32 (0,0)):=by rw [hV];exact one_other GR3 Aaa
 have hB3:aY w V3:=by rw [hV];exact GB3.setCell (p:=⟨w.heap.size+1,3,none⟩) (Nat.le_succ _) (.int .i64 N3)
 clear hV GM3 GR3 GB3 c0 c1 c2 c3 c4 c5 c6 f0 f1 f2 f3 f4 f5 f6 hz3;have HM3:=Hq hM3;have HR3:=Hq hR3;have HB3:=Hq hB3;clear hM3 hR3 hB3;go_wp2_with fail;refine(HG4 _ (HH.below HB3)).mono ?_;rintro e x4 ⟨rfl,hb4⟩;have gM4:=aJ HM3 hb4;have gR4:=aJ HR3 hb4;have gB4:=HB3.trans (hb4.mono HB3.size);obtain⟨⟨c0,c1,c2,c3,c4,c5,c6⟩,f0,f1,f2,f3,f4,f5,f6⟩:=dQ gM4;have Bl:=bH gM4;have GM4:=Hq gM4;have GR4:=Hq gR4;have GB4:=Hq gB4;clear hb4 HM3 HR3 HB3 gM4 gR4 gB4 HG4;go_upto_region 8 with fail;refine wp_at (λV4 hV=>?_);have hM4:V4.heap[w.heap.size+1]?=some (.cells (cK (s[0].toNat:Int) N1 N2 N3 N4 ⟨#[]⟩ 0) 32 (0,0)):=by rw [hV];exact blk_set GM4 4 (.int .i64 N4)
 have hR4:V4.heap[w.heap.size]?=some (.cells (cK 0 0 0 0 0 ⟨#[]⟩ 0) 32 (0,0)):=by rw [hV];exact one_other GR4 Aaa
 have hB4:aY w V4:=by rw [hV];exact GB4.setCell (p:=⟨w.heap.size+1,4,none⟩) (Nat.le_succ _) (.int .i64 N4)
 clear hV GM4 GR4 GB4 c0 c1 c2 c3 c4 c5 c6 f0 f1 f2 f3 f4 f5 f6 Bl;have HM4:=Hq hM4;have HR4:=Hq hR4;have lI:=Hq hB4;clear hM4 hR4 hB4;go_wp2_with fail;refine(HG5 _ (HH.below lI)).mono ?_;rintro e x5 ⟨rfl,hb5⟩;have gM5:=aJ HM4 hb5;have gR5:=aJ HR4 hb5;have gB5:=lI.trans (hb5.mono lI.size);obtain⟨⟨c0,c1,c2,c3,c4,c5,c6⟩,f0,f1,f2,f3,f4,f5,f6⟩:=dQ gM5;have hz5:=bH gM5;have GM5:=Hq gM5;have GR5:=Hq gR5;have GB5:=Hq gB5;clear hb5 HM4 HR4 lI gM5 gR5 gB5 HG5;go_upto_region 9 with fail;refine wp_at (λV5 hV=>?_);have hM5:V5.heap[w.heap.size+1]?=some (.cells (cK (s[0].toNat:Int) N1 N2 N3 N4 TX 0) 32 (0,0)):=by rw [hV];exact blk_set GM5 5 (.string TX)
 have Vv:V5.heap[w.heap.size]?=some (.cells (cK 0 0 0 0 0 ⟨#[]⟩ 0) 32 (0,0)):=by rw [hV];exact one_other GR5 Aaa
 have hB5:aY w V5:=by rw [hV];exact GB5.setCell (p:=⟨w.heap.size+1,5,none⟩) (Nat.le_succ _) (.string TX)
 clear hV GM5 GR5 GB5 c0 c1 c2 c3 c4 c5 c6 f0 f1 f2 f3 f4 f5 f6 hz5;have HM5:=Hq hM5;have BF:=Hq Vv;have iX:=Hq hB5;clear hM5 Vv hB5;go_wp2_with fail;refine(HG6 _ (HH.below iX)).mono ?_;rintro e x6 ⟨rfl,hb6⟩;have gM6:=aJ HM5 hb6;have gR6:=aJ BF hb6;have gB6:=iX.trans (hb6.mono iX.size);obtain⟨⟨c0,c1,c2,c3,c4,c5,c6⟩,f0,f1,f2,f3,f4,f5,f6⟩:=dQ gM6;have hz6:=bH gM6;have GM6:=Hq gM6;have GR6:=Hq gR6;have GB6:=Hq gB6;clear hb6 HM5 BF iX gM6 gR6 gB6 HG6;go_upto_region 10 with fail;refine wp_at (λV6 hV=>?_);have hM6:V6.heap[w.heap.size+1]?=some (.cells (cK (s[0].toNat:Int) N1 N2 N3 N4 TX N5) 32 (0,0)):=by rw [hV];exact blk_set GM6 6 (.int .i64 N5)
 have hR6:V6.heap[w.heap.size]?=some (.cells (cK 0 0 0 0 0 ⟨#[]⟩ 0) 32 (0,0)):=by rw [hV];exact one_other GR6 Aaa
 have hB6:aY w V6:=by rw [hV];exact GB6.setCell (p:=⟨w.heap.size+1,6,none⟩) (Nat.le_succ _) (.int .i64 N5)
 clear hV GM6 GR6 GB6 c0 c1 c2 c3 c4 c5 c6 f0 f1 f2 f3 f4 f5 f6 hz6;have hzM:=bH hM6;have hzR:=bH hR6;by_cases hE:E6=(s.size:Int)
 case' neg=>
  have hO:OK=false:=by rw [ah HO,decide_eq_false hE];rfl
  have uz:=Hq (HZ hO)
  have hq:(E6 != (s.size:Int))=true:=Acm
  obtain⟨⟨d0,d1,d2,d3,d4,d5,d6⟩,f0,f1,f2,f3,f4,f5,f6⟩:=dQ hR6
  have HR:=Hq hR6
  have HB:=Hq hB6
  have HE:=Hq hE
  clear hO HO HZ HM HP hM6 hR6 hB6 hE
  go_wp2_with fail
  refine bodyPost_at (λW' hW'=>?_)
  obtain⟨⟨r0,r1,r2,r3,r4,r5,r6⟩,_⟩:=dQ (show W'.heap[w.heap.size]?=some (.cells (cK 0 0 0 0 0 ⟨#[]⟩ 0) 32 (0,0)) by rw [hW'];exact ou HR)
  have hbb:aY w W':=by rw [hW'];exact mG HB (Nat.le_refl _)
  exact bodyPost_ret (v:= .tuple #[.agg (cK 0 0 0 0 0 ⟨#[]⟩ 0),.bool false]) Ado rfl ⟨Aay,hbb⟩
 have hq:(E6 != (s.size:Int))=false:=Acm
 obtain⟨q0,q1,q2,q3,q4,q5,q6⟩:=uj hM6;have HR:=Hq hR6;have HB:=Hq hB6;have HMB:=Hq hM6;have HE:=Hq hE;clear hR6 hB6 hM6 hE;open ark in exact afA):P:=h
theorem afu(h:P:=by
 have hc:s[k].toNat < 256:=s[k].toNat_lt;have aCO:=hv2 hj;have HU:=Hq (hu2 hj);clear hv2 hu2 hv5 hu;obtain⟨hp0,hp1⟩:=aeD s[k].toNat v;exact AcY):P:=h
end Go.Proofs.YtacgbldlonoaaaaGreatDoor
