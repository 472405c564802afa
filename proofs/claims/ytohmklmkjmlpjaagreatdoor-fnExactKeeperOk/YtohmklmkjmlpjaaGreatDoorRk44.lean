/- Parts. -/
import Derived.Test.YtohmklmkjmlpjaaGreatDoorRk43
import Derived.Test.YtohmklmkjmlpjaaGreatDoorRk18
import Derived.Test.YtohmklmkjmlpjaaGreatDoorRk38
namespace Go.Proofs.YtohmklmkjmlpjaaGreatDoor
open Go.Proofs.Tryz
set_option maxHeartbeats 8000000
set_option maxRecDepth 100000
open Go.RowKit
open Mth
def J5 (w:World) (n:Nd) (e:Ending) (w':World):Prop:=∃A' G' c',e= .returned (fQ n A')/\NO w' w.heap.size n A' G' c'/\aI w w'
theorem Li (n:Nd) (A:bV) (a:Option Addr) (cap:Nat) (L:List gQ) (E:Nat->Addr) (w:World) (hz:eX n 1048576) (hL:L.length<=60000) (hk:∀o∈L,o.k.size<=1048576/\o.m.k.size<=1048576) (ha:dx w A n) (ho:Je w a L) (he:iI w E):
 Calls prog 83 #[fQ n A,.slice a L.length cap] w (J5 w (iw n L)):=by
 have Ng:=Hq (λW (h:aI w W)=>tV n A W hz (ha.below h));have nW:=Hq (λW (h:aI w W)=>xX n A W (hz.mono Aaa) (ha.below h));have HDO:=Hq (fun(hn:dY n=true) (k:Nat) (hk1:k < L.length) W w0 wb A G c v (hW:WK w0 W wb (iw n (L.take k)) A G c v []) (he:iI w0 E)=>aGK w0 W wb (iw n (L.take k)) A G c v [] L[k] E (LY hz _) (Wh hn _) (hk _ (List.getElem_mem hk1)).1 (hk _ (List.getElem_mem hk1)).2 Aac hW he);have HPS:=Hq (fun(hn:dY n=true) (k:Nat) (hk1:k < L.length)=>show(nD (iw n (L.take k)) L[k]).1=iw n (L.take (k+1)) by rw [JH hk1,SH (Wh hn _)]);have Ki:=Hq (λh=>ac1 (n:=n) h L);have HPE:=Hq (show iw n (L.take L.length)=iw n L by rw [List.take_length]);have HE:=Hq he;have HO:=Hq ho;clear hz ha hk ho he;unfold J5;go_in
 go_upto_region 1 with fail;refine wp_at (λW0 hW=>?_);obtain⟨e1,e3,e4⟩:=iA w (.cells (dH n A) 40) (.cells gN 40);rw [<-hW] at e1 e3 e4;have HN:=Hq e1;have HR:=Hq e3;have HB:=Hq e4;have HO0:=Hq (GR.At.below HO e4);have HE0:=Hq (HE.below e4);clear hW e1 e3 e4 HO HE;have hl0:=aA HR;obtain⟨c0,c1,c2,c3,c4,c5,c6,c7,c8⟩:=nine HN;go_wp2_with fail;refine(Ng W0 HB).mono ?_;rintro e y ⟨A1,G1,cc1,rfl,Zp,hby⟩;have lI:=Hq Zp;have IK:=Hq hby;clear Zp hby c0 c1 c2 c3 c4 c5 c6 c7 c8 Ng;go_upto_region 2 with fail;refine wp_at (λW hW=>?_);have e5:W.heap[y.heap.size]?=some (.cells (Wu n A1 (.slice none 0 0)) 192 (0,0)):=Acn
 have e6:aI y W:=by rw [hW];exact ay _ _
 have HK:=Hq (WK.start IK lI (Nat.le_refl y.heap.size) e6 e5);have WE:=Hq (au HN HK.keep);have hys:W0.heap.size<=y.heap.size:=IK.size;clear hW e5 e6 lI HN IK;generalize newC y.heap.size 8 cc1=OO at *;generalize y.heap.size=wb at *;obtain⟨c0,c1,c2,c3,c4,c5,c6,c7,c8⟩:=nine WE;have hnl:=aA WE;go_wp2_with fail;refine(nW W (HB.trans (HK.keep.mono HB.size))).mono ?_;rintro e W2 ⟨rfl,hb2⟩;have sW:=Hq (HK.step hb2);clear hb2 c0 c1 c2 c3 c4 c5 c6 c7 c8 nW WE hnl HK;cases hok:dY n with
 |false=>
  have hpb:=ah Ki hok;clear HDO HPS Ki HPE;obtain⟨c0,c1,c2,c3,c4,c5,c6,c7,c8,c9⟩:=jH sW.blk;have hres:=au HR sW.keep;have qD:=Hq hres;have hrl:=aA hres;have hwl:=aA sW.blk;obtain⟨d0,d1,d2,d3,d4,d5,d6,d7,d8⟩:=nine hres;have f0:=aj hres 0;have f1:=aj hres 1;have f2:=aj hres 2;have f3:=aj hres 3;have f4:=aj hres 4;have f5:=aj hres 5;have f6:=aj hres 6;have f7:=aj hres 7;have f8:=aj hres 8;clear hres;go_wp2_with fail;refine aW (λW' hW'=>?_);have e9:W'.heap[w.heap.size+1]?=some (.cells (dH n A1) 40 (0,0)):=by rw [hW'];exact uY qD
  obtain⟨r0,r1,r2,r3,r4,r5,r6,r7,r8⟩:=nine e9;have jM:NO W' w.heap.size n A1 G1 OO:=by rw [hW'];exact(sW.no.keepsN Aaa pV).base HB.size
  have hBB:aI w W':=by rw [hW'];exact tC (HB.trans (sW.keep.mono HB.size)) Aaa
  exact bodyPost_ret (v:=fQ n A1) Adn rfl ⟨A1,G1,OO,by rw [hpb],by rw [hpb];exact jM,hBB⟩
 |true=>
  have HD:=Hq (HDO hok);have HP:=Hq (HPS hok);have hK0:∃A G c,WK W0 W2 wb (iw n (L.take 0)) A G c (.slice none 0 0) []:=⟨A1,G1,OO,sW⟩;have HK0:=Hq hK0;clear HDO HPS Ki hok sW hK0;go_wp2_with fail;go_loopw [18] (λi wr=>∃k:Nat,k<=L.length/\i= .int .i64 k/\∃A G c,WK W0 wr wb (iw n (L.take k)) A G c (.slice none 0 0) []) (λi _=>L.length - (intOf i).toNat)
  case atStart=>exact⟨0,Nat.zero_le _,rfl,HK0⟩
  case round=>
   clear HK0;obtain⟨k,hkl,rfl,A2,G2,cc3,hK⟩:=hrel;have HK:=Hq hK;clear hK;by_cases hlt:k < L.length
   .obtain⟨g1,o1,rfl,hg1,s0,s1,s2,s3,s4,s5,s6,s7,s8,s9,s10⟩:=Je.eleven (GR.At.below HO0 HK.keep) k hlt;have HDk:=Hq (HD k hlt);have HPk:=Hq (HP k hlt);generalize nD (iw n (L.take k)) L[k]=RR at *;generalize iw n (L.take k)=m at *;generalize L[k]=oo at *;obtain⟨K,no,kk,nn,⟨mK,mF,mT,mI,mL,mk,mN⟩⟩:=oo;dsimp only at s0 s1 s2 s3 s4 s5 s6 s7 s8 s9 s10;go_upto_region 7 with fail;refine wp_at (λV hV=>?_);have hbv:aI wr V:=by rw [hV];exact ay _ _
    have HV:=Hq (show V.heap[wr.heap.size]?=some (.cells (bY K no kk nn mK mF mT mI mL mk mN) 100 (0,0)) by rw [hV];exact heap_alloc_new _ _);have sW:=Hq (HK.step hbv);have afX:=Hq (HDk V W0 wb A2 G2 cc3 _ sW HE0);clear hV hbv HK HDk s0 s1 s2 s3 s4 s5 s6 s7 s8 s9 s10;obtain⟨⟨p0,p1,p2,p3,p4,p5,p6,p7,p8,p9,nX⟩,_⟩:=aO HV;go_wp2_with fail;refine afX.mono ?_;rintro e W3 ⟨rfl,A3,G3,cc4,v3,hK3⟩;have HK3:=Hq hK3;obtain⟨q0,q1,q2,q3,q4,q5,q6,q7,q8,q9⟩:=jH hK3.blk;have f9:=aj hK3.blk 9;clear hK3 afX sW HV p0 p1 p2 p3 p4 p5 p6 p7 p8 p9 nX q0 q1 q2 q3 q4 q5 q6 q7 q8;go_wp2_with fail;go_roundw
    case rel=>exact⟨k+1,Aaa,Aah,A3,G3,cc4,by have h:=HK3.mute;rw [ah HPk] at h;exact h⟩
    case measure=>simp[intOf];omega
   .have hke:k=L.length:=Aaa
    subst hke;have hnlt:decide ((L.length:Int) < (L.length:Int))=false:=Aac
    rw [ah HPE] at HK;obtain⟨m,hm⟩:∃m,iw n L=m:=⟨_,rfl⟩;rw [hm] at HK;have HM:=Hq hm;clear HD HP HPE hlt hm;obtain⟨c0,c1,c2,c3,c4,c5,c6,c7,c8,c9⟩:=jH HK.blk;have hres:=au HR HK.keep;have qD:=Hq hres;have hrl:=aA hres;have hwl:=aA HK.blk;obtain⟨d0,d1,d2,d3,d4,d5,d6,d7,d8⟩:=nine hres;have f0:=aj hres 0;have f1:=aj hres 1;have f2:=aj hres 2;have f3:=aj hres 3;have f4:=aj hres 4;have f5:=aj hres 5;have f6:=aj hres 6;have f7:=aj hres 7;have f8:=aj hres 8;clear hres;go_wp2_with fail;refine aW (λW' hW'=>?_);have e9:W'.heap[w.heap.size+1]?=some (.cells (dH m A2) 40 (0,0)):=by rw [hW'];exact uY qD
    obtain⟨r0,r1,r2,r3,r4,r5,r6,r7,r8⟩:=nine e9;have jM:NO W' w.heap.size m A2 G2 cc3:=by rw [hW'];exact(HK.no.keepsN Aaa pV).base HB.size
    have hBB:aI w W':=by rw [hW'];exact tC (HB.trans (HK.keep.mono HB.size)) Aaa
    exact bodyPost_ret (v:=fQ m A2) Adn rfl ⟨A2,G2,cc3,by rw [ah HM],by rw [ah HM];exact jM,hBB⟩
namespace Mth
def xZ (k:Kp):Prop:=dY k.base=true/\dY k.node=true/\(0<=k.safe/\k.safe<=k.log.size)/\(gM k.log).2=k.log.size/\k.node=iw k.base (gM k.log).1
end Mth
theorem acf (k:Kp) (A:KA) (g:Nat) (st:Int) (lk rt:Bool) (E:Nat->Addr) (w:World) (hz:xO k 1048576) (ha:rA w A k) (hg:w.heap[g]?=some (.cells (hkG k A st lk rt) 132 (0,0))) (he:iI w E) (hH:Handle w):
 Calls Tryz.prog 128 #[.pointer (some ⟨g,0,none⟩)] w (lF w (xZ k)):=by
 have Kg:=Hq (λW (h:aI w W)=>xX k.base A.b W (hz.b.mono Aaa) (ha.below h).kb);have Au:=Hq (λW (h:aI w W)=>xX k.node A.n W (hz.n.mono Aaa) (ha.below h).kn);have DC:=Hq (λW (h:aI w W)=>acj k.log (by have:=hz.l;unfold maxLen;omega) W (hH.below h));have Nl:=Hq (λa cap W (h:aI w W) (ho:Je W a (gM k.log).1)=>Li k.base A.b a cap (gM k.log).1 E W hz.b (JL k.log) (λo h=>VY (Qq k.log o h)) (ha.below h).kb ho (he.below h));have yT:=Hq (λW (h:aI w W) A' (hb:dx W A' (iw k.base (gM k.log).1))=>Yv k.node (iw k.base (gM k.log).1) A.n A' W hz.n (ha.below h).kn hb);have HK:=Hq hg;have hgl:=aA hg;have hsl:=hz.l;unfold kU at DC;unfold J5 at Nl;clear hz ha hg he hH;obtain⟨⟨bk,bp,bo,bs,br,bck,bcp,bco,bcs,bcr⟩,⟨nk,np,no,ns,nr,nck,ncp,nco,ncs,ncr⟩,wa,wc,aa,ac⟩:=A;dsimp only at Kg Au Nl yT;have y0:=cell_regrown (show w.cell? ⟨g,0,none⟩=some (.int .i64 k.node.id) from dQ HK 0);have y1:=cell_regrown (show w.cell? ⟨g,1,none⟩=some (.int .i64 k.node.par) from dQ HK 1);have y2:=cell_regrown (show w.cell? ⟨g,2,none⟩=some (.slice nk k.node.kids.length nck) from dQ HK 2);have y3:=cell_regrown (show w.cell? ⟨g,3,none⟩=some (.int .i64 k.node.next) from dQ HK 3);have y4:=cell_regrown (show w.cell? ⟨g,4,none⟩=some (.slice np k.node.pu.length ncp) from dQ HK 4);have y5:=cell_regrown (show w.cell? ⟨g,5,none⟩=some (.slice no k.node.out.length nco) from dQ HK 5);have y6:=cell_regrown (show w.cell? ⟨g,6,none⟩=some (.slice ns k.node.seen.length ncs) from dQ HK 6);have y7:=cell_regrown (show w.cell? ⟨g,7,none⟩=some (.int .i64 k.node.old) from dQ HK 7);have y8:=cell_regrown (show w.cell? ⟨g,8,none⟩=some (.slice nr k.node.reqs.length ncr) from dQ HK 8);have y11:=cell_regrown (show w.cell? ⟨g,11,none⟩=some (.int .i64 k.base.id) from dQ HK 11);have y12:=cell_regrown (show w.cell? ⟨g,12,none⟩=some (.int .i64 k.base.par) from dQ HK 12);have y13:=cell_regrown (show w.cell? ⟨g,13,none⟩=some (.slice bk k.base.kids.length bck) from dQ HK 13);have y14:=cell_regrown (show w.cell? ⟨g,14,none⟩=some (.int .i64 k.base.next) from dQ HK 14);have y15:=cell_regrown (show w.cell? ⟨g,15,none⟩=some (.slice bp k.base.pu.length bcp) from dQ HK 15);have y16:=cell_regrown (show w.cell? ⟨g,16,none⟩=some (.slice bo k.base.out.length bco) from dQ HK 16);have y17:=cell_regrown (show w.cell? ⟨g,17,none⟩=some (.slice bs k.base.seen.length bcs) from dQ HK 17);have y18:=cell_regrown (show w.cell? ⟨g,18,none⟩=some (.int .i64 k.base.old) from dQ HK 18);have y19:=cell_regrown (show w.cell? ⟨g,19,none⟩=some (.slice br k.base.reqs.length bcr) from dQ HK 19);have y20:=cell_regrown (show w.cell? ⟨g,20,none⟩=some (.string k.log) from dQ HK 20);have y21:=cell_regrown (show w.cell? ⟨g,21,none⟩=some (.int .i64 k.safe) from dQ HK 21);cases h1:dY k.base
 case' false=>
  have HP:=Hq (show¬xZ k from λh=>by have h:=h.1;rw [h1] at h;cases h);have k1:∀d os,Calls Tryz.prog 137 #[fQ k.base (⟨bk,bp,bo,bs,br,bck,bcp,bco,bcs,bcr⟩:bV)] (Sort.grow (redrawn w d) os) λe w''=>e= .returned (.bool false)/\∃p:Regrown,w''=Sort.grow (redrawn w p.d) p.os:=λd os=>Calls.regrown_of (h1▸ah Kg _ (below_regrown w d os))
  clear h1 Kg Au DC Nl yT HK;go_in
  go_upto_region 1 with fail;refine wp_region_quiet_below Aab Aab ?_;repeat (first|go_big_quiet_step ((go_at_call_of 137 bk;exact k1 _ _))|quiet_step ((go_at_call_of 137 bk;exact k1 _ _)))
  refine wpQuiet_nil ?_;intro _ hw';obtain⟨⟨dq,osq⟩,hw''⟩:=hw';subst hw'';clear k1 y0 y1 y2 y3 y4 y5 y6 y7 y8 y11 y12 y13 y14 y15 y16 y17 y18 y19 y20 y21;go_wp2_with fail;go_ret;exact .no HP (below_regrown _ dq osq)
 have k1:∀d os,Calls Tryz.prog 137 #[fQ k.base (⟨bk,bp,bo,bs,br,bck,bcp,bco,bcs,bcr⟩:bV)] (Sort.grow (redrawn w d) os) λe w''=>e= .returned (.bool true)/\∃p:Regrown,w''=Sort.grow (redrawn w p.d) p.os:=λd os=>Calls.regrown_of (h1▸ah Kg _ (below_regrown w d os))
 cases h2:dY k.node
 case' false=>
  have HP:=Hq (show¬xZ k from λh=>by have h:=h.2.1;rw [h2] at h;cases h);have k2:∀d os,Calls Tryz.prog 137 #[fQ k.node (⟨nk,np,no,ns,nr,nck,ncp,nco,ncs,ncr⟩:bV)] (Sort.grow (redrawn w d) os) λe w''=>e= .returned (.bool false)/\∃p:Regrown,w''=Sort.grow (redrawn w p.d) p.os:=λd os=>Calls.regrown_of (h2▸ah Au _ (below_regrown w d os))
  clear h1 h2 Kg Au DC Nl yT HK;go_in
  go_upto_region 1 with fail;refine wp_region_quiet_below Aab Aab ?_;repeat (first|go_big_quiet_step (first|(go_at_call_of 137 nk;exact k2 _ _)|(go_at_call_of 137 bk;exact k1 _ _))|quiet_step (first|(go_at_call_of 137 nk;exact k2 _ _)|(go_at_call_of 137 bk;exact k1 _ _)))
  refine wpQuiet_nil ?_;intro _ hw';obtain⟨⟨dq,osq⟩,hw''⟩:=hw';subst hw'';clear k1 k2 y0 y1 y2 y3 y4 y5 y6 y7 y8 y11 y12 y13 y14 y15 y16 y17 y18 y19 y20 y21;go_wp2_with fail;go_ret;exact .no HP (below_regrown _ dq osq)
 have k2:∀d os,Calls Tryz.prog 137 #[fQ k.node (⟨nk,np,no,ns,nr,nck,ncp,nco,ncs,ncr⟩:bV)] (Sort.grow (redrawn w d) os) λe w''=>e= .returned (.bool true)/\∃p:Regrown,w''=Sort.grow (redrawn w p.d) p.os:=λd os=>Calls.regrown_of (h2▸ah Au _ (below_regrown w d os))
 have Wv:=Hq (And.intro h1 h2);clear h1 h2 Kg Au;by_cases h3:k.safe < 0
 case' pos=>
  have HP:=Hq (show¬xZ k from λh=>by have:=h.2.2.1.1;omega);have hd:decide (k.safe < 0)=true:=decide_eq_true h3;clear h3 Wv DC Nl yT HK;go_in
  go_upto_region 1 with fail;refine wp_region_quiet_below Aab Aab ?_;repeat (first|go_big_quiet_step (first|(go_at_call_of 137 nk;exact k2 _ _)|(go_at_call_of 137 bk;exact k1 _ _))|quiet_step (first|(go_at_call_of 137 nk;exact k2 _ _)|(go_at_call_of 137 bk;exact k1 _ _)))
  refine wpQuiet_nil ?_;intro _ hw';obtain⟨⟨dq,osq⟩,hw''⟩:=hw';subst hw'';clear hd k1 k2 y0 y1 y2 y3 y4 y5 y6 y7 y8 y11 y12 y13 y14 y15 y16 y17 y18 y19 y20 y21;go_wp2_with fail;go_ret;exact .no HP (below_regrown _ dq osq)
 have hd3:decide (k.safe < 0)=false:=decide_eq_false h3;by_cases h4:(k.log.size:Int) < k.safe
 case' pos=>
  have HP:=Hq (show¬xZ k from λh=>by have:=h.2.2.1.2;omega);have hd:decide (k.safe > (k.log.size:Int))=true:=decide_eq_true h4;have hd':decide ((k.log.size:Int) < k.safe)=true:=decide_eq_true h4;clear h3 h4 Wv DC Nl yT HK;go_in
  go_upto_region 1 with fail;refine wp_region_quiet_below Aab Aab ?_;repeat (first|go_big_quiet_step (first|(go_at_call_of 137 nk;exact k2 _ _)|(go_at_call_of 137 bk;exact k1 _ _))|quiet_step (first|(go_at_call_of 137 nk;exact k2 _ _)|(go_at_call_of 137 bk;exact k1 _ _)))
  refine wpQuiet_nil ?_;intro _ hw';obtain⟨⟨dq,osq⟩,hw''⟩:=hw';subst hw'';clear hd hd' hd3 k1 k2 y0 y1 y2 y3 y4 y5 y6 y7 y8 y11 y12 y13 y14 y15 y16 y17 y18 y19 y20 y21;go_wp2_with fail;go_ret;exact .no HP (below_regrown _ dq osq)
 have hd4:decide (k.safe > (k.log.size:Int))=false:=decide_eq_false h4;have aFF:decide ((k.log.size:Int) < k.safe)=false:=decide_eq_false h4;have HSF:=Hq (show 0<=k.safe/\k.safe<=k.log.size by omega);clear h3 h4;go_in
 go_upto_region 1 with fail;refine wp_region_quiet_below Aab Aab ?_;repeat (first|go_big_quiet_step (first|(go_at_call_of 137 nk;exact k2 _ _)|(go_at_call_of 137 bk;exact k1 _ _))|quiet_step (first|(go_at_call_of 137 nk;exact k2 _ _)|(go_at_call_of 137 bk;exact k1 _ _)))
 refine wpQuiet_nil ?_;intro _ hw';obtain⟨⟨dq,osq⟩,hw''⟩:=hw';subst hw'';clear hd3 hd4 aFF k1 k2 y0 y1 y2 y3 y4 y5 y6 y7 y8 y11 y12 y13 y14 y15 y16 y17 y18 y19 y20 y21;have HB1:=Hq (below_regrown w dq osq);generalize Sort.grow (redrawn w dq) osq=V at *;have HKV:=Hq (au HK HB1);have v20:V.cell? ⟨g,20,none⟩=some (.string k.log):=dQ HKV 20;clear HK;go_wp2_with fail;refine(DC V HB1).mono ?_;rintro e V2 ⟨v,rfl,hown,hb2⟩;obtain⟨la,lc,rfl,hops⟩:=GR.own_at (enc:=nO) (sz:=11) jR hown;have Ec:=Hq hops;have HB2:=Hq (Below.trans HB1 (hb2.mono HB1.size));have sW:=Hq (au HKV hb2);clear hb2 HB1 HKV v20 hgl hown hops DC;have hgl:=aA sW;have y20:=cell_regrown (show V2.cell? ⟨g,20,none⟩=some (.string k.log) from dQ sW 20);by_cases h5:(gM k.log).2=k.log.size
 case' neg=>
  have HP:=Hq (show¬xZ k from λh=>h5 h.2.2.2.1);have hq:(((gM k.log).2:Int) == (k.log.size:Int))=false:=Aag
  clear h5 Wv HSF Nl yT Ec sW;go_upto_region 4 with fail;refine wp_region_quiet_below Aab Aab ?_;repeat (first|go_big_quiet_step (fail)|quiet_step (fail))
  refine wpQuiet_nil ?_;intro _ hw';obtain⟨⟨dq,osq⟩,hw''⟩:=hw';subst hw'';clear y20;go_wp2_with fail;go_ret;exact .no HP (HB2.trans ((below_regrown _ dq osq).mono HB2.size))
 have hq:(((gM k.log).2:Int) == (k.log.size:Int))=true:=by simp[h5]
 have HE5:=Hq h5;clear h5;obtain⟨hr0,hr1⟩:=XB sW;go_upto_region 4 with fail;refine dz Aab ?_;show gT _ _ _ _ 21 (Array.replicate 21 false) _ _
 refine aP 0 rfl Aab Aab Aab (λ_ _ _ _ h=>h) (λK hK=>?_);go_simp
 first
  |(refine hK _ ?_;clear hK K)
  |(apply Exists.intro
    refine⟨λ_=>?_,hK _ ?_⟩
    (rfl)
    clear hK K)
 refine aP 1 rfl Aab Aab Aab (λ_ _ _ _ h=>h) (λK hK=>?_);go_simp
 first
  |(refine hK _ ?_;clear hK K)
  |(apply Exists.intro
    refine⟨λ_=>?_,hK _ ?_⟩
    (rfl)
    clear hK K)
 refine aP 2 rfl Aab Aab Aab (λ_ _ _ _ h=>h) (λK hK=>?_);go_simp
 first
  |(refine hK _ ?_;clear hK K)
  |(apply Exists.intro
    refine⟨λ_=>?_,hK _ ?_⟩
    (rfl)
    clear hK K)
 refine aP 3 rfl Aab Aab Aab (λ_ _ _ _ h=>h) (λK hK=>?_);go_simp
 first
  |(refine hK _ ?_;clear hK K)
  |(apply Exists.intro
    refine⟨λ_=>?_,hK _ ?_⟩
    (rfl)
    clear hK K)
 refine aP 4 rfl Aab Aab Aab (λ_ _ _ _ h=>h) (λK hK=>?_);go_simp
 first
  |(refine hK _ ?_;clear hK K)
  |(apply Exists.intro
    refine⟨λ_=>?_,hK _ ?_⟩
    (rfl)
    clear hK K)
 refine aP 5 rfl Aab Aab Aab (λ_ _ _ _ h=>h) (λK hK=>?_);go_simp
 first
  |(refine hK _ ?_;clear hK K)
  |(apply Exists.intro
    refine⟨λ_=>?_,hK _ ?_⟩
    (rfl)
    clear hK K)
 refine aP 6 rfl Aab Aab Aab (λ_ _ _ _ h=>h) (λK hK=>?_);go_simp
 first
  |(refine hK _ ?_;clear hK K)
  |(apply Exists.intro
    refine⟨λ_=>?_,hK _ ?_⟩
    (rfl)
    clear hK K)
 refine aP 7 rfl Aab Aab Aab (λ_ _ _ _ h=>h) (λK hK=>?_);go_simp
 first
  |(refine hK _ ?_;clear hK K)
  |(apply Exists.intro
    refine⟨λ_=>?_,hK _ ?_⟩
    (rfl)
    clear hK K)
 refine aP 8 rfl Aab Aab Aab (λ_ _ _ _ h=>h) (λK hK=>?_);go_simp
 first
  |(refine hK _ ?_;clear hK K)
  |(apply Exists.intro
    refine⟨λ_=>?_,hK _ ?_⟩
    (rfl)
    clear hK K)
 refine aP 9 rfl Aab Aab Aab (λ_ _ _ _ h=>h) (λK hK=>?_);go_simp
 first
  |(refine hK _ ?_;clear hK K)
  |(apply Exists.intro
    refine⟨λ_=>?_,hK _ ?_⟩
    (rfl)
    clear hK K)
 refine aP 10 rfl Aab Aab Aab (λ_ _ _ _ h=>h) (λK hK=>?_);go_simp
 first
  |(refine hK _ ?_;clear hK K)
  |(apply Exists.intro
    refine⟨λ_=>?_,hK _ ?_⟩
    (rfl)
    clear hK K)
 refine lH 11 rfl Aab Aab Aab (λ_ _ _ _ h=>h) Aad 40 _ rfl g 0 rfl (dH k.node (⟨nk,np,no,ns,nr,nck,ncp,nco,ncs,ncr⟩:bV)).toList _ hr0 hgl Tryz.underlying40 rfl Aab ?_;refine aP 12 rfl Aab Aab Aab (λ_ _ _ _ h=>h) (λK hK=>?_);go_simp
 first
  |(refine hK _ ?_;clear hK K)
  |(apply Exists.intro
    refine⟨λ_=>?_,hK _ ?_⟩
    (rfl)
    clear hK K)
 refine aP 13 rfl Aab Aab Aab (λ_ _ _ _ h=>h) (λK hK=>?_);go_simp
 first
  |(refine hK _ ?_;clear hK K)
  |(apply Exists.intro
    refine⟨λ_=>?_,hK _ ?_⟩
    (rfl)
    clear hK K)
 refine aP 14 rfl Aab Aab Aab (λ_ _ _ _ h=>h) (λK hK=>?_);go_simp
 first
  |(refine hK _ ?_;clear hK K)
  |(apply Exists.intro
    refine⟨λ_=>?_,hK _ ?_⟩
    (rfl)
    clear hK K)
 refine lH 15 rfl Aab Aab Aab (λ_ _ _ _ h=>h) Aad 40 _ rfl g 11 rfl (dH k.base (⟨bk,bp,bo,bs,br,bck,bcp,bco,bcs,bcr⟩:bV)).toList _ hr1 hgl Tryz.underlying40 rfl Aab ?_;refine aP 16 rfl Aab Aab Aab (λ_ _ _ _ h=>h) (λK hK=>?_);go_simp
 first
  |(refine hK _ ?_;clear hK K)
  |(apply Exists.intro
    refine⟨λ_=>?_,hK _ ?_⟩
    (rfl)
    clear hK K)
 clear y20 hr0 hr1 hq;refine fT 17 rfl Aab Aad (λx17 alK=>?_);go_simp;have g17:aI w x17:=Ge.trans (show Ge w V2 from HB2) alK;refine(Nl la lc x17 g17 (GR.At.below Ec alK)).mono ?_;rintro e z17 ⟨A',G',c',rfl,hN',alN⟩;refine⟨alN,?_⟩;have HA':=Hq hN'.at;have HG:=Hq (show aI w z17 from Ge.trans (show Ge w x17 from g17) alN);clear hN' alK alN g17 HB2 Nl sW Ec;refine fT 18 rfl Aab Aad (λx18 XI=>?_);go_simp;have g18:aI w x18:=Ge.trans (show Ge w z17 from HG) XI;refine(yT x18 g18 A' (HA'.below XI)).mono ?_;rintro e z18 ⟨⟨r,rfl,hr⟩,alO⟩;refine⟨alO,?_⟩;have HR:=Hq (show r=true↔xZ k from⟨λh=>⟨Wv.1,Wv.2,HSF,HE5,hr.1 h⟩,λh=>hr.2 h.2.2.2.2⟩);have HG2:=Hq (show aI w z18 from Ge.trans (show Ge w x18 from g18) alO);clear XI alO g18 yT HG HA' hr Wv HSF HE5;refine aP 19 rfl Aab Aab Aab (λ_ _ _ _ h=>h) (λK hK=>?_);go_simp
 first
  |(refine hK _ ?_;clear hK K)
  |(apply Exists.intro
    refine⟨λ_=>?_,hK _ ?_⟩
    (rfl)
    clear hK K)
 refine fT 20 rfl Aab Aad (λx20 aCN=>?_);go_simp;refine⟨Below.refl _ _,?_⟩;refine fu Aab (λz hz=>?_);have Ea:=Hq (show aI w z from Ge.trans (show Ge w z18 from HG2) (Ge.trans aCN hz));clear aCN hz HG2;go_wp2_with fail;go_ret;exact⟨⟨r,rfl,HR⟩,Ea⟩
open Go.RowKit Go.MuLone
theorem hkB.look {w:World} {g:Nat} {k:Kp} {A:KA} {st:Int} {lk rt:Bool} (h:hkB w g k A st lk rt) (b:Bool):hkB ((w.setCell ⟨g,24,none⟩ (.bool true)).setCell ⟨g,25,none⟩ (.bool b)) g k A st true b:=by
 have h1:hkB (w.setCell ⟨g,24,none⟩ (.bool true)) g k A st true rt:=aR h 24 _;exact aR h1 25 _
def Right (w:World) (g:Nat) (k:Kp) (A:KA) (st:Int) (e:Ending) (w':World):Prop:=∃r,e= .returned (.bool r)/\(r=true↔xZ k)/\hkB w' g k A st true r/\aC [g] w w'
theorem XT (k:Kp) (A:KA) (g:Nat) (st:Int) (E:Nat->Addr) (w:World) (hz:xO k 1048576) (ha:rA w A k) (hg:hkB w g k A st false false) (he:iI w E) (hH:Handle w):
 Calls Tryz.prog 72 #[.pointer (some ⟨g,0,none⟩)] w (Right w g k A st):=by
 have HL:=Hq (acf k A g st false false E w hz ha hg he hH);have HG:=Hq hg;have p24:w.cell? ⟨g,24,none⟩=some (.bool false):=dQ hg 24;clear hz ha hg he hH;go_in
 go_wp2_with fail;refine HL.mono ?_;rintro e w1 ⟨⟨r,rfl,hr⟩,hb1⟩;have HR:=Hq hr;have IU:=Hq (au HG hb1);have RH:=Hq (aC.of_below (F:=[g]) hb1);clear hb1 p24 HL HG hr;have q24:w1.cell? ⟨g,24,none⟩=some (.bool false):=dQ IU 24;have q25:w1.cell? ⟨g,25,none⟩=some (.bool false):=dQ IU 25;have f24:=aj IU 24;have f25:=aj IU 25;go_wp2_with fail;go_ret;exact⟨r,rfl,HR,(show hkB w1 g k A st false false from IU).look r,RH.trans ((aC.set _).trans (aC.set _))⟩
theorem alQ (k:Kp) (A:KA) (g:Nat) (E:Nat->Addr) (w:World) (hz:xO k 1048576) (h1:∀w',aC [g] w w'->rA w' A k/\iI w' E/\Handle w') (hg:hkB w g k A 0 false false):
 Calls Tryz.prog 26 #[.pointer (some ⟨g,0,none⟩)] w (Right w g k A 0):=by
 have c9:w.cell? ⟨g,9,none⟩=some (.int .i32 0):=dQ hg 9;have f9:=aj hg 9;have IU:=Hq (hkB.lock hg 1);have RH:=Hq (show aC [g] w (w.setCell ⟨g,9,none⟩ (.int .i32 1)) from aC.set _);have HA:=Hq h1;have HZ:=Hq hz;clear h1 hz hg;go_enter_defers Tryz.func26,Tryz.ntmps26
 go_wp2_with (go_at_call 70;refine(lock_free aj8 ⟨g,9,none⟩ _ c9 f9).mono ?_;rintro e w' ⟨rfl,rfl⟩)
 generalize w.setCell ⟨g,9,none⟩ (.int .i32 1)=W1 at *;obtain⟨ha1,ha2,ha3⟩:=ah HA W1 RH;refine(XT k A g 1 E W1 HZ ha1 IU ha2 ha3).mono ?_;rintro e W2 ⟨r,rfl,hr,hg2,hk2⟩;have HR:=Hq hr;have HG2:=Hq hg2;have sW:=Hq (RH.trans hk2);clear hr hg2 hk2 ha1 ha2 ha3 IU RH HA HZ c9 f9;go_wp2_with fail;refine leaves_cons (f:=71) (args:=#[.pointer (some ⟨g,9,none⟩)]) Aac (by simp[go_sem]) ?_;refine(unlock_deferred aj8 ⟨g,9,none⟩ .returning _ (dQ HG2 9) (aj HG2 9)).mono ?_;rintro e u' w'' ⟨rfl,rfl,rfl⟩;exact⟨_,results_tmp rfl _ _ _,r,rfl,HR,(show hkB W2 g k A 1 true r from HG2).lock 0,sW.trans (aC.set _)⟩
theorem Lf (k:Kp) (A:KA) (E:Nat->Addr) (w:World) (hz:xO k 1048576) (ha:rA w A k) (he:iI w E) (hH:Handle w):
 Calls Tryz.prog 8 #[Zr k A] w (lF w (xZ k)):=by
 obtain⟨V,hV⟩:∃V,Rv V k A:=⟨_,rfl⟩;have HHD:=Hq (λW (h:aI w W)=>hV.agg▸acd k A W hz (ha.below h));have nL:=Hq (ay w (.cells V.toArray 44));have HK0:=Hq (KR.blk (heap_alloc_new w (.cells V.toArray 44)));have HE:=Hq (λW (h:aI w W)=>And.intro (he.below h) (hH.below h));have HZ:=Hq hz;have HV:=Hq hV.len;rw [hV.agg];clear hz ha he hH hV;go_in
 go_upto_region 1 with fail;refine wp_region_list ?_;show wpList _ _ _ [_,_,_,_] _ _
 refine acy Aad (.tmp 1) rfl w.heap.size rfl V HV HK0 ?_;go_wp2_with fail;refine(HHD _ nL).mono ?_;rintro e w1 ⟨A',m1,m2,m3,g,rfl,hg,hk,hb⟩;obtain⟨l1,l2,l3,l4,l5⟩:=hk.le;have hlg:w.heap.size<=g:=by have:=nL.size;omega
 have HB:=Hq (nL.trans (hb.mono nL.size));have HK:=Hq hk;have HG:=Hq hg;clear hb hk hg l1 l2 l3 l4 l5 HHD nL HK0 HV;go_wp2_with fail;refine(alQ k A' g E w1 HZ (λw' hk'=>⟨(HK.keeps hk' (λx hx=> .inl (by rw [List.mem_singleton.1 hx];exact Nat.le_refl _))).at,HE w' (zi HB hk' hlg HB.size)⟩) HG).mono ?_;rintro e w2 ⟨r,rfl,hr,_,hk2⟩;have HR:=Hq hr;have HB2:=Hq (zi HB hk2 hlg HB.size);clear hr hk2 HB HK HG HE HZ;go_wp2_with fail;go_ret;exact⟨⟨r,rfl,HR⟩,HB2⟩
end Go.Proofs.YtohmklmkjmlpjaaGreatDoor
