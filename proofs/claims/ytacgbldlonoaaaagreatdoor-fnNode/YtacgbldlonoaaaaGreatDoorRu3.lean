/- Parts. -/
import Derived.Test.YtacgbldlonoaaaaGreatDoorRu1
import Derived.Test.YtacgbldlonoaaaaGreatDoorRu2
import Derived.Test.YtacgbldlonoaaaaGreatDoorRt8
import Derived.Test.YtacgbldlonoaaaaGreatDoorRt9
namespace Go.Proofs.YtacgbldlonoaaaaGreatDoor
set_option maxHeartbeats 16000000
set_option maxRecDepth 100000
open Go.RowKit
open Mth
theorem NSx.gen {w W:World} {bs:List (Nat×Obj)} {ns:List (bE×Nd)} {ms:List (Option Addr×List Mg)} (h:NSx w bs ns ms W):∃BS,BS=bs∧NSx w BS ns ms W:=⟨bs,rfl,h⟩
theorem av8 {α:Type} {b B:List α} (h:B=b) (i:Nat) {x:α} (e:b[i]?=some x):B[i]?=some x:=h▸e
theorem all_keys {k:Nat} (hk:k < 2):∃s:ByteArray,[(⟨#[97]⟩:ByteArray),⟨#[98]⟩][k]?=some s∧keyOk s.data.toList=true∧s.size≤1048576:=by
 have:k=0∨k=1:=by omega
 rcases this with rfl|rfl
 ·exact⟨_,rfl,by decide,by decide⟩
 ·exact⟨_,rfl,by decide,by decide⟩
theorem awh (a:Option Addr) (len cap:Nat) (E:Nat→Addr) (w:World) (hcode:asA w a len) (he:gW w E):Calls Tryz.prog 3 #[.slice a len cap] w fun e w'=>e= .returned (.bool true)∧Below w.heap.size w w':=by
 have hl:=hcode.1;have HC:=hide hcode;have HE:=hide he;clear hcode he;go_enter Tryz.func3,Tryz.ntmps3
 go_wp2_with fail;refine(avN a len cap _ hl).mono ?_;rintro e w0 ⟨rfl,rfl⟩;go_wp2_with fail;refine(auN a len cap _ HC).mono ?_;rintro e w1 ⟨n,A,o,rfl,hz,hat,hk,hmk,hb1⟩;have HCC:=hide (fun W (hb:Below w.heap.size w W)=>HC.below hb);have TW:=hide ((NSx.start hb1).addN hat);have HD1:=hide (fun W (hb:Below w.heap.size w W) (ha:dQ W A n)=>avo n A o E W hz hk hmk ha (HE.below hb));have HD2:=hide (fun W (ha:dQ W A n)=>avq n A o W hz hk hmk ha);have HSN:=hide (fun A' B' W (ha:dQ W A' (Pn n o).1) (hb:dQ W B' (Pn n o).1)=>au1 (Pn n o).1 A' B' W (ark hz) ha hb);have Pf:=hide (fun a b ca cb W (ha:Qn W a (Pn n o).2.1) (hb:Qn W b (Pn n o).2.1)=>atU a b ca cb (Pn n o).2.1 W (by have:=ap8 (o:=o) hz;omega) ha hb);have HSB:=hide (fun A' B' W (ha:dQ W A' n) (hb:dQ W B' n)=>au1 n A' B' W hz ha hb);have HIO:=hide (fun W (ha:dQ W A n)=>tL n A W (hz.mono (by omega)) ha);have CQ:=hide (fun W (ha:dQ W A n)=>Ar n A W (hz.mono (by omega)) ha);have PY:=hide (fun A' W (ha:dQ W A' (Pn n o).1)=>tL (Pn n o).1 A' W ((ark hz).mono (by omega)) ha);have HT3:=hide (@awk n o);have ku:=hide (fun h:(Pn n o).2.2≠3=>show dG n=true∧dG (Pn n o).1=true from⟨(asB h).1,VO (asB h).1⟩);have HAL:=hide (fun(s:ByteArray) A' W (hok:dG (Pn n o).1=true) (hk:keyOk s.data.toList=true) (hks:s.size≤1048576) (ha:dQ W A' (Pn n o).1)=>awf (Pn n o).1 A' s W (ark hz) hok hk hks ha);have awD:=hide (fun(s:ByteArray) W (hok:dG n=true) (hk:keyOk s.data.toList=true) (hks:s.size≤1048576) (ha:dQ W A n)=>awf n A s W hz hok hk hks ha);have HBD:=hide (fun(s:ByteArray) (h1:dG n=true) (h2:dG (Pn n o).1=true) (hk:keyOk s.data.toList=true)=>show IntKind.i64.wrap (aso (Pn n o).1 s - aso n s)=aso (Pn n o).1 s - aso n s from awo h1 h2 hk);have HDO:=hide (fun s h=>avG (n:=n) (o:=o) s h);have awm:=hide (@avp n o);have hLL:=ap8 (o:=o) hz;clear hz hat hb1 hk hmk HE;generalize Pn n o=R at *;obtain⟨m,L,code⟩:=R;dsimp only at HD1 HD2 HSN Pf PY HT3 ku HAL HBD HDO awm hLL;unfold atC at HD1 HD2;dsimp only at HD1 HD2;obtain⟨K,no,k,nn,⟨mK,mF,mT,mI,mL,mk,mN⟩⟩:=o;dsimp only at HDO;go_upto_region 4 with fail;refine wp_at (fun W1 hW1=>?_);have HS2:=hide ((TW.addB rfl).addB hW1);clear hW1 TW;rw [show(w1.alloc _).heap.size=w1.heap.size+1 by simp] at HS2;generalize w1.heap.size=gn at *;have HO:=hide (HS2.at 0 rfl);have HN:=hide (HS2.at 1 rfl);obtain⟨c0,c1,c2,c3,c4,c5,c6,c7,c8⟩:=nine HN;obtain⟨⟨o0,o1,o2,o3,o4,o5,o6,o7,o8,o9,o10⟩,_⟩:=dP HO;go_wp2_with fail;refine(HD1 W1 HS2.bel (HS2.nd 0 rfl)).mono ?_;rintro e w2 ⟨Am,am,cm,rfl,hN,hM,hb2⟩;have Xa:=hide (((HS2.step hb2).addN hN).addM hM);clear hN hM hb2 HS2 HO HN HD1 c0 c1 c2 c3 c4 c5 c6 c7 c8 o0 o1 o2 o3 o4 o5 o6 o7 o8 o9 o10;go_upto_region 5 with fail;refine wp_at (fun W2 hW2=>?_);have HS4:=hide (Xa.addB hW2);clear hW2 Xa;generalize w2.heap.size=gm at *;obtain⟨c0,c1,c2,c3,c4,c5,c6,c7,c8⟩:=nine (HS4.at 2 rfl);obtain⟨⟨o0,o1,o2,o3,o4,o5,o6,o7,o8,o9,o10⟩,_⟩:=dP (HS4.at 1 rfl);go_wp2_with fail;refine(HD2 W2 (HS4.nd 1 rfl)).mono ?_;rintro e w3 ⟨Aw,aw,cw,rfl,hN,hM,hb3⟩;have HS5:=hide (((HS4.step hb3).addN hN).addM hM);clear hN hM hb3 HS4 HD2 c0 c1 c2 c3 c4 c5 c6 c7 c8 o0 o1 o2 o3 o4 o5 o6 o7 o8 o9 o10;go_upto_region 6 with fail;refine wp_at (fun W3 hW3=>?_);have HS6:=hide (HS5.addB hW3);clear hW3 HS5;generalize w3.heap.size=gw at *;go_wp2_with fail;refine(avb a len cap _ (HCC _ HS6.bel)).mono ?_;rintro e w4 ⟨x,Ax,rfl,hzx,awL,hb4⟩;have HS7:=hide ((HS6.step hb4).addN awL);clear awL hb4 HS6
 obtain⟨mm,PL,hPL,hmm,hmz⟩:∃mm PL,Te x=PL∧PL.length=mm∧mm≤1048600:=⟨_,_,rfl,rfl,by
  have ho:=hzx.o
  unfold Te
  split
  ·simp;omega
  ·simp⟩
 have HIM:=hide (fun W (ha:dQ W Ax x)=>auY x Ax W PL mm hPL hmm hzx ha);have M8:=hide (fun W (ha:dQ W Ax x)=>au2 x Ax W PL mm hPL hmm hzx ha);have TY:=hide (fun a b ca cb W ha hb=>au0 a b ca cb mm PL W hmm hmz ha hb);clear hPL hmm hmz hzx;unfold atp at HIM M8;go_upto_region 7 with fail;refine wp_at (fun W4 Nv=>?_);have Qd:=hide (HS7.addB Nv);clear Nv HS7;generalize w4.heap.size=gx at *;go_wp2_with fail;refine(awc a len cap _ (HCC _ Qd.bel)).mono ?_;rintro e w5 ⟨id,par,kids,gk,rfl,hk5,awu,hb5⟩;have HS9:=hide (Qd.step hb5);have HNI:=hide (avi id par (some ⟨gk,0,none⟩) kids.length kids w5 hk5 awu);have HNS:=hide (fun W (hb:Below w5.heap.size w5 W)=>avm id par gk kids.length kids W hk5 (GR.At.below awu hb));have awx:=awr (id:=id) (par:=par) hk5;have MR:=hide (@awq id par kids);have HSQ:=hide (fun A' B' W (ha:dQ W A' (Io id par kids).1) (hb:dQ W B' (Io id par kids).1)=>au1 (Io id par kids).1 A' B' W awx ha hb);have jY:=hide (fun A' W (ha:dQ W A' (Io id par kids).1)=>tL (Io id par kids).1 A' W (awx.mono (by omega)) ha);clear hk5 awu hb5 awx Qd HCC;generalize Io id par kids=R2 at *;obtain⟨y,ok⟩:=R2;dsimp only at MR HSQ jY;unfold atA at HNI HNS;dsimp only at HNI HNS;go_wp2_with fail;refine HNI.mono ?_;rintro e w6 ⟨Ay,rfl,hN,hb6⟩;have rW:=hide hb6;have awE:=hide ((HS9.step hb6).addN hN);clear hN hb6 HS9 HNI;go_upto_region 9 with fail;refine wp_at (fun W6 Pp=>?_);have Cq:=hide (rW.trans ((show Below w6.heap.size w6 W6 by rw [Pp];exact au w6 _).mono rW.size));have awF:=hide (awE.addB Pp);clear Pp awE rW;generalize w6.heap.size=gy at *;go_wp2_with fail;refine(HNS W6 Cq).mono ?_;rintro e w7 ⟨Az,rfl,hN,tJ⟩;have awG:=hide ((awF.step tJ).addN hN);clear hN tJ awF HNS Cq;go_upto_region 10 with fail;refine wp_at (fun W7 FD=>?_);have av4:=hide (awG.addB FD);clear FD awG;generalize w7.heap.size=gz at *;obtain⟨BS,hBS,awK⟩:=av4.gen;clear av4;have av4:=hide awK;have I0:=hide (av8 hBS 0 rfl);have I1:=hide (av8 hBS 1 rfl);have I2:=hide (av8 hBS 2 rfl);have I3:=hide (av8 hBS 3 rfl);have I4:=hide (av8 hBS 4 rfl);have I5:=hide (av8 hBS 5 rfl);have I6:=hide (av8 hBS 6 rfl);clear hBS awK;have hcc:(code != code)=false:=by simp
 have hoo:(ok != ok)=false:=by simp
 have hnn:(dG n != dG n)=false:=by simp
 go_cut [114] (fun t wx=>t= .bool false∧NSx w BS [(Az,y),(Ay,y),(Ax,x),(Aw,m),(Am,m),(A,n)] [(aw,L),(am,L)] wx)
 case first=>
  as_aux_lemma=>
  refine fK (by kernel_rfl) ?_;show iX _ _ _ _ 49 (Array.replicate 49 false) _ _
  obtain⟨c0,c1,c2,c3,c4,c5,c6,c7,c8⟩:=nine (av4.at 4 I4);have x0:=cell_regrown c0;have x1:=cell_regrown c1;have x2:=cell_regrown c2;have x3:=cell_regrown c3;have x4:=cell_regrown c4;have x5:=cell_regrown c5;have x6:=cell_regrown c6;have x7:=cell_regrown c7;have x8:=cell_regrown c8;obtain⟨d0,d1,d2,d3,d4,d5,d6,d7,d8⟩:=nine (av4.at 3 I3);have y0:=cell_regrown d0;have y1:=cell_regrown d1;have y2:=cell_regrown d2;have y3:=cell_regrown d3;have y4:=cell_regrown d4;have y5:=cell_regrown d5;have y6:=cell_regrown d6;have y7:=cell_regrown d7;have y8:=cell_regrown d8;have N1:=hide (fun q:Regrown=>HSN Am Aw (Gr W7 q) ((av4.step (below_regrown W7 q.d q.os)).nd 4 rfl) ((av4.step (below_regrown W7 q.d q.os)).nd 3 rfl));have N2:=hide (fun q:Regrown=>Pf am aw cm cw (Gr W7 q) ((av4.step (below_regrown W7 q.d q.os)).mg 1 rfl) ((av4.step (below_regrown W7 q.d q.os)).mg 0 rfl));refine tk [0,1,2,3,4,5] ?_;iterate 6 (refine Pq (fun K hK=>?_);go_simp;refine hK _ ?_;clear hK K)
  refine jI ?_;refine uD 6 rfl (by kernel_rfl) (by kernel_rfl) (by kernel_rfl) (fun _ _ _ _ h=>h) (fun K hK=>?_);go_simp
  first
   |(refine hK _ ?_;clear hK K)
   |(apply Exists.intro
     refine⟨fun _=>?_,hK _ ?_⟩
     (exact N1 _)
     clear hK K)
  refine tk [7,8,9,10,11] ?_;iterate 5 (refine Pq (fun K hK=>?_);go_simp;refine hK _ ?_;clear hK K)
  refine jI ?_;refine uD 12 rfl (by kernel_rfl) (by kernel_rfl) (by kernel_rfl) (fun _ _ _ _ h=>h) (fun K hK=>?_);go_simp
  first
   |(refine hK _ ?_;clear hK K)
   |(apply Exists.intro
     refine⟨fun _=>?_,hK _ ?_⟩
     (exact N2 _)
     clear hK K)
  refine tk [13,14,15] ?_;iterate 3 (refine Pq (fun K hK=>?_);go_simp;refine hK _ ?_;clear hK K)
  refine jI ?_;clear N1 N2 c0 d0 x0 y0 c1 d1 x1 y1 c2 d2 x2 y2 c3 d3 x3 y3 c4 d4 x4 y4 c5 d5 x5 y5 c6 d6 x6 y6 c7 d7 x7 y7 c8 d8 x8 y8;obtain⟨c0,c1,c2,c3,c4,c5,c6,c7,c8⟩:=nine (av4.at 2 I2);have x0:=cell_regrown c0;have x1:=cell_regrown c1;have x2:=cell_regrown c2;have x3:=cell_regrown c3;have x4:=cell_regrown c4;have x5:=cell_regrown c5;have x6:=cell_regrown c6;have x7:=cell_regrown c7;have x8:=cell_regrown c8;refine tk [16,18] ?_;iterate 2 (refine Pq (fun K hK=>?_);go_simp;refine hK _ ?_;clear hK K)
  refine jI ?_;as_aux_lemma=>
  refine O3 17 rfl (by kernel_rfl) (by rfl) (fun w8 hx8=>?_);go_simp;have aws:=hide (av4.step hx8);clear hx8 av4 c0 x0 c1 x1 c2 x2 c3 x3 c4 x4 c5 x5 c6 x6 c7 x7 c8 x8;refine(HIM w8 (aws.nd 2 rfl)).mono ?_;rintro e w9 ⟨ai,ci,rfl,hi,hb9⟩;refine⟨hb9,?_⟩;have awH:=hide ((aws.step hb9).addM hi);clear hi hb9 aws HIM;go_simp;refine O3 19 rfl (by kernel_rfl) (by rfl) (fun w10 awN=>?_);go_simp;have awt:=hide (awH.step awN);clear awN awH;refine(M8 w10 (awt.nd 2 rfl)).mono ?_;rintro e w11 ⟨as',cs,rfl,hs,aww⟩;refine⟨aww,?_⟩;have av5:=hide ((awt.step aww).addM hs);clear hs aww awt M8;go_simp;have N3:=hide (fun q:Regrown=>TY ai as' ci cs (Gr w11 q) ((av5.step (below_regrown w11 q.d q.os)).mg 1 rfl) ((av5.step (below_regrown w11 q.d q.os)).mg 0 rfl));have N4:=hide (fun q:Regrown=>HSQ Ay Az (Gr w11 q) ((av5.step (below_regrown w11 q.d q.os)).nd 1 rfl) ((av5.step (below_regrown w11 q.d q.os)).nd 0 rfl));have N5:=hide (fun q:Regrown=>HIO (Gr w11 q) ((av5.step (below_regrown w11 q.d q.os)).nd 5 rfl));have N6:=hide (fun q:Regrown=>CQ (Gr w11 q) ((av5.step (below_regrown w11 q.d q.os)).nd 5 rfl));have N7:=hide (fun q:Regrown=>jY Ay (Gr w11 q) ((av5.step (below_regrown w11 q.d q.os)).nd 1 rfl));clear TY HSQ HIO CQ jY;as_aux_lemma=>
  refine uD 20 rfl (by kernel_rfl) (by kernel_rfl) (by kernel_rfl) (fun _ _ _ _ h=>h) (fun K hK=>?_);go_simp
  first
   |(refine hK _ ?_;clear hK K)
   |(apply Exists.intro
     refine⟨fun _=>?_,hK _ ?_⟩
     (exact N3 _)
     clear hK K)
  refine tk [21,22,23,24,25,26,27,28] ?_;iterate 8 (refine Pq (fun K hK=>?_);go_simp;refine hK _ ?_;clear hK K)
  refine jI ?_;obtain⟨c0,c1,c2,c3,c4,c5,c6,c7,c8⟩:=nine (av5.at 1 I1);have x0:=cell_regrown c0;have x1:=cell_regrown c1;have x2:=cell_regrown c2;have x3:=cell_regrown c3;have x4:=cell_regrown c4;have x5:=cell_regrown c5;have x6:=cell_regrown c6;have x7:=cell_regrown c7;have x8:=cell_regrown c8;obtain⟨d0,d1,d2,d3,d4,d5,d6,d7,d8⟩:=nine (av5.at 0 I0);have y0:=cell_regrown d0;have y1:=cell_regrown d1;have y2:=cell_regrown d2;have y3:=cell_regrown d3;have y4:=cell_regrown d4;have y5:=cell_regrown d5;have y6:=cell_regrown d6;have y7:=cell_regrown d7;have y8:=cell_regrown d8;refine tk [29,30] ?_;iterate 2 (refine Pq (fun K hK=>?_);go_simp;refine hK _ ?_;clear hK K)
  refine jI ?_;refine uD 31 rfl (by kernel_rfl) (by kernel_rfl) (by kernel_rfl) (fun _ _ _ _ h=>h) (fun K hK=>?_);go_simp
  first
   |(refine hK _ ?_;clear hK K)
   |(apply Exists.intro
     refine⟨fun _=>?_,hK _ ?_⟩
     (exact N4 _)
     clear hK K)
  refine tk [32,33,34] ?_;iterate 3 (refine Pq (fun K hK=>?_);go_simp;refine hK _ ?_;clear hK K)
  refine jI ?_;clear N3 N4 d0 y0 d1 y1 d2 y2 d3 y3 d4 y4 d5 y5 d6 y6 d7 y7 d8 y8;obtain⟨d0,d1,d2,d3,d4,d5,d6,d7,d8⟩:=nine (av5.at 6 I6);have y0:=cell_regrown d0;have y1:=cell_regrown d1;have y2:=cell_regrown d2;have y3:=cell_regrown d3;have y4:=cell_regrown d4;have y5:=cell_regrown d5;have y6:=cell_regrown d6;have y7:=cell_regrown d7;have y8:=cell_regrown d8;as_aux_lemma=>
  refine tk [35,37] ?_;iterate 2 (refine Pq (fun K hK=>?_);go_simp;refine hK _ ?_;clear hK K)
  refine jI ?_;refine uD 36 rfl (by kernel_rfl) (by kernel_rfl) (by kernel_rfl) (fun _ _ _ _ h=>h) (fun K hK=>?_);go_simp
  first
   |(refine hK _ ?_;clear hK K)
   |(apply Exists.intro
     refine⟨fun _=>?_,hK _ ?_⟩
     (exact N5 _)
     clear hK K)
  refine uD 38 rfl (by kernel_rfl) (by kernel_rfl) (by kernel_rfl) (fun _ _ _ _ h=>h) (fun K hK=>?_);go_simp
  first
   |(refine hK _ ?_;clear hK K)
   |(apply Exists.intro
     refine⟨fun _=>?_,hK _ ?_⟩
     (exact N6 _)
     clear hK K)
  refine tk [39,40,41,42,43] ?_;iterate 5 (refine Pq (fun K hK=>?_);go_simp;refine hK _ ?_;clear hK K)
  refine jI ?_;clear N5 N6 d0 y0 d1 y1 d2 y2 d3 y3 d4 y4 d5 y5 d6 y6 d7 y7 d8 y8;cases ok
  case false=>
   as_aux_lemma=>
   refine tk [44,45,46,47,48] ?_;iterate 5 (refine Pq (fun K hK=>?_);go_simp;refine hK _ ?_;clear hK K)
   refine jI ?_;refine iC (by kernel_rfl) (fun z hz=>?_);have av9:=hide (av5.step hz);go_wp2_with fail;go_meet
   case rel=>exact⟨rfl,av9.bel,av9.own,av9.nod,fun q hq=>av9.msg q (List.mem_cons_of_mem _ (List.mem_cons_of_mem _ hq))⟩
  case true=>
   as_aux_lemma=>
   have hyo:=ah MR rfl;rw [hyo] at N7;refine tk [44] ?_;(refine Pq (fun K hK=>?_);go_simp;refine hK _ ?_;clear hK K)
   refine jI ?_;refine uD 45 rfl (by kernel_rfl) (by kernel_rfl) (by kernel_rfl) (fun _ _ _ _ h=>h) (fun K hK=>?_);go_simp
   first
    |(refine hK _ ?_;clear hK K)
    |(apply Exists.intro
      refine⟨fun _=>?_,hK _ ?_⟩
      (exact N7 _)
      clear hK K)
   refine tk [46,47,48] ?_;iterate 3 (refine Pq (fun K hK=>?_);go_simp;refine hK _ ?_;clear hK K)
   refine jI ?_;refine iC (by kernel_rfl) (fun z hz=>?_);have av9:=hide (av5.step hz);go_wp2_with fail;go_meet
   case rel=>exact⟨rfl,av9.bel,av9.own,av9.nod,fun q hq=>av9.msg q (List.mem_cons_of_mem _ (List.mem_cons_of_mem _ hq))⟩
 case rest=>
  obtain⟨rfl,hS⟩:=hcut;have HS:=hide hS;clear hS av4 TY HSQ HIO CQ jY MR HIM M8 HSN Pf I0 I1 I2 I3 hcc hoo hnn;have hmL:L.length≤1048576:=hLL;as_aux_lemma=>
  by_cases h3:code=3
  ·as_aux_lemma=>
   subst h3;have e3:=ah HT3 rfl
   obtain⟨em,eL⟩:n=m∧([]:List Mg)=L:=by
    have h:=Prod.mk.inj e3;exact⟨h.1.symm,(Prod.mk.inj h.2).1.symm⟩
   subst em eL;clear HT3 ku HAL awD HBD HDO awm PY hLL hmL e3;obtain⟨c0,c1,c2,c3,c4,c5,c6,c7,c8⟩:=nine (HS.at 4 I4);obtain⟨d0,d1,d2,d3,d4,d5,d6,d7,d8⟩:=nine (HS.at 6 I6);go_wp2_with fail;refine(HSB Am A _ (HS.nd 4 rfl) (HS.nd 5 rfl)).mono ?_;rintro e w8 ⟨rfl,Bd⟩;have Qd:=hide (HS.step Bd);clear Bd HS c0 c1 c2 c3 c4 c5 c6 c7 c8 d0 d1 d2 d3 d4 d5 d6 d7 d8;go_wp2_with fail;go_ret;exact⟨rfl,Qd.bel⟩
  have e3:(code == 3)=false:=by simp[h3]
  obtain⟨hon,hom⟩:=ah ku h3;have awM:=ah awm h3;have TY:=hide awM;have HDD:=hide (fun s=>HDO s h3);rw [hom] at PY;clear awM HT3 ku awm HDO HSB h3 hLL;go_wp2_with fail;go_loopw [19] (fun i wr=>∃q:Nat,q≤L.length∧i= .int .i64 q∧NSx w BS [(Az,y),(Ay,y),(Ax,x),(Aw,m),(Am,m),(A,n)] [(aw,L),(am,L)] wr) (fun i _=>L.length - (intOf i).toNat)
  case atStart=>exact⟨0,Nat.zero_le _,rfl,HS⟩
  case round=>
   clear HS;obtain⟨q,hq,rfl,hS⟩:=hrel;have HS:=hide hS;clear hS;by_cases hlt:q < L.length
   ·as_aux_lemma=>
    obtain⟨g1,o1,rfl,hg1,s0,s1,s2,s3,s4,s5,s6⟩:=Qn.seven (HS.mg 1 rfl) q hlt;obtain⟨hx1,hx2⟩:=ah TY _ (List.getElem_mem hlt);generalize L[q]=x1 at *;obtain⟨pK,pF,pT,pI,pL,pk,pN⟩:=x1;dsimp only at s0 s1 s2 s3 s4 s5 s6 hx2;obtain⟨c0,c1,c2,c3,c4,c5,c6,c7,c8⟩:=nine (HS.at 6 I6);have NM:=hide (fun v:Regrown=>show Calls Tryz.prog 20 #[nX ⟨pK,pF,pT,pI,pL,pk,pN⟩] (Gr wr v) (fun e w'=>e= .returned (.bool true)∧Ge (Gr wr v) w') by have h:=Oe ⟨pK,pF,pT,pI,pL,pk,pN⟩ (Gr wr v);rw [hx1] at h;exact h);have hne:(pF != n.id)=false:=by simp[hx2]
    have y0:=cell_regrown s0;have y1:=cell_regrown s1;have y2:=cell_regrown s2;have y3:=cell_regrown s3;have y4:=cell_regrown s4;have y5:=cell_regrown s5;have y6:=cell_regrown s6;have x0:=cell_regrown c0;clear hx1 hx2 c0 c1 c2 c3 c4 c5 c6 c7 c8;go_upto_region 17 with fail;refine fK (by kernel_rfl) ?_;show iX _ _ _ _ 16 (Array.replicate 16 false) _ _
    refine tk [0,1,2,3] ?_;iterate 4 (refine Pq (fun K hK=>?_);go_simp;refine hK _ ?_;clear hK K)
    refine jI ?_;refine uD 4 rfl (by kernel_rfl) (by kernel_rfl) (by kernel_rfl) (fun _ _ _ _ h=>h) (fun K hK=>?_);go_simp
    first
     |(refine hK _ ?_;clear hK K)
     |(apply Exists.intro
       refine⟨fun _=>?_,hK _ ?_⟩
       (exact NM _)
       clear hK K)
    refine tk [5,6,7,8,9,10,11,12,13,14,15] ?_;iterate 11 (refine Pq (fun K hK=>?_);go_simp;refine hK _ ?_;clear hK K)
    refine jI ?_;refine iC (by kernel_rfl) (fun z hz=>?_);have HS2:=hide (HS.step hz);clear hz HS NM y0 y1 y2 y3 y4 y5 y6 x0 s0 s1 s2 s3 s4 s5 s6;go_wp2_with fail;go_roundw
    case rel=>exact⟨q+1,by omega,by go_num,HS2⟩
    case measure=>simp[intOf];omega
   ·as_aux_lemma=>
    have hqe:q=L.length:=by omega
    subst hqe;have hnlt:decide ((L.length:Int) < (L.length:Int))=false:=by simp
    clear TY hlt hq;go_upto_region 20 with fail;refine wp_at (fun V hV=>?_);have HS2:=hide (HS.addB hV);clear hV HS hnlt;generalize wr.heap.size=gs at *;go_wp2_with fail;go_loopw [21] (fun i wr=>∃q:Nat,q≤2∧i= .int .i64 q∧NSx w ((gs,.cells #[.string ⟨#[97]⟩,.string ⟨#[98]⟩] 9)::BS) [(Az,y),(Ay,y),(Ax,x),(Aw,m),(Am,m),(A,n)] [(aw,L),(am,L)] wr) (fun i _=>2 - (intOf i).toNat)
    case atStart=>exact⟨0,Nat.zero_le _,rfl,HS2⟩
    case round=>
     clear HS2;obtain⟨q,hq,rfl,hS⟩:=hrel;have HS:=hide hS;clear hS;by_cases hlt:q < 2
     ·as_aux_lemma=>
      obtain⟨s,hs1,hs2,hs3⟩:=all_keys hlt
      have hcs:wr.cell? ⟨gs,q,none⟩=some (.string s):=by
       rw [cell_of_row _ _ _ _ _ _ ((ah HS).at 0 rfl)];have:q=0∨q=1:=by omega
       rcases this with rfl|rfl<;>simpa using hs1
      have hwr:=ah HBD s hon hom hs2;have HM1:=hide (fun v:Regrown=>HAL s Am (Gr wr v) hom hs2 hs3 ((HS.step (below_regrown wr v.d v.os)).nd 4 rfl));have HM2:=hide (fun v:Regrown=>awD s (Gr wr v) hon hs2 hs3 ((HS.step (below_regrown wr v.d v.os)).nd 5 rfl));obtain⟨hd1,hd2,hd3,hd4⟩:=ah HDD s;generalize aso m s=dm at *;generalize aso n s=dn at *;obtain⟨D,hD⟩:∃D,dm - dn=D:=⟨_,rfl⟩;rw [hD] at hwr hd1 hd2 hd3 hd4;obtain⟨c0,c1,c2,c3,c4,c5,c6,c7,c8⟩:=nine (HS.at 5 I4);obtain⟨d0,d1,d2,d3,d4,d5,d6,d7,d8⟩:=nine (HS.at 7 I6);have zs:=cell_regrown hcs;have x0:=cell_regrown c0;have y0:=cell_regrown d0;have x1:=cell_regrown c1;have y1:=cell_regrown d1;have x2:=cell_regrown c2;have y2:=cell_regrown d2;have x3:=cell_regrown c3;have y3:=cell_regrown d3;have x4:=cell_regrown c4;have y4:=cell_regrown d4;have x5:=cell_regrown c5;have y5:=cell_regrown d5;have x6:=cell_regrown c6;have y6:=cell_regrown d6;have x7:=cell_regrown c7;have y7:=cell_regrown d7;have x8:=cell_regrown c8;have y8:=cell_regrown d8;have awQ:IntKind.i64.wrap (dm - dn)=D:=by rw [hD];exact hwr
      clear hwr hs2 hs3 c0 c1 c2 c3 c4 c5 c6 c7 c8 d0 d1 d2 d3 d4 d5 d6 d7 d8 hcs hD;go_upto_region 23 with fail;go_cut [22] (fun t wx=>t= .int .i64 D∧NSx w ((gs,.cells #[.string ⟨#[97]⟩,.string ⟨#[98]⟩] 9)::BS) [(Az,y),(Ay,y),(Ax,x),(Aw,m),(Am,m),(A,n)] [(aw,L),(am,L)] wx)
      case first=>
       as_aux_lemma=>
       refine fK (by kernel_rfl) ?_;show iX _ _ _ _ 14 (Array.replicate 14 false) _ _
       refine tk [0,1,2,3,4] ?_;iterate 5 (refine Pq (fun K hK=>?_);go_simp;refine hK _ ?_;clear hK K)
       refine jI ?_;refine uD 5 rfl (by kernel_rfl) (by kernel_rfl) (by kernel_rfl) (fun _ _ _ _ h=>h) (fun K hK=>?_);go_simp
       first
        |(refine hK _ ?_;clear hK K)
        |(apply Exists.intro
          refine⟨fun _=>?_,hK _ ?_⟩
          (exact HM1 _)
          clear hK K)
       refine tk [6,7,8,9,10] ?_;iterate 5 (refine Pq (fun K hK=>?_);go_simp;refine hK _ ?_;clear hK K)
       refine jI ?_;refine uD 11 rfl (by kernel_rfl) (by kernel_rfl) (by kernel_rfl) (fun _ _ _ _ h=>h) (fun K hK=>?_);go_simp
       first
        |(refine hK _ ?_;clear hK K)
        |(apply Exists.intro
          refine⟨fun _=>?_,hK _ ?_⟩
          (exact HM2 _)
          clear hK K)
       refine tk [12,13] ?_;iterate 2 (refine Pq (fun K hK=>?_);go_simp;refine hK _ ?_;clear hK K)
       refine jI ?_;refine iC (by kernel_rfl) (fun z hz=>?_);go_wp2_with fail;go_meet
       case rel=>exact⟨rfl,HS.step hz⟩
      case rest=>
       as_aux_lemma=>
       obtain⟨rfl,hS⟩:=hcut;have HS2:=hide hS;clear hS HS HM1 HM2 awQ zs x0 y0 x1 y1 x2 y2 x3 y3 x4 y4 x5 y5 x6 y6 x7 y7 x8 y8
       have hcs:wc.cell? ⟨gs,q,none⟩=some (.string s):=by
        rw [cell_of_row _ _ _ _ _ _ ((ah HS2).at 0 rfl)];have:q=0∨q=1:=by omega
        rcases this with rfl|rfl<;>simpa using hs1
       obtain⟨⟨o0,o1,o2,o3,o4,o5,o6,o7,o8,o9,o10⟩,_⟩:=dP (HS2.at 6 I5);clear hs1;by_cases a1:K=0
       ·have f6:(K == 6)=false:=by simp[a1]
        have f0:(K == 0)=true:=by simp[a1]
        by_cases a2:k=s
        ·have f1:(k.toList == s.toList)=true:=by simp[a2]
         by_cases a3:code=0
         ·have f2:(code == 0)=true:=by simp[a3]
          have f3:(D != nn)=false:=by simp[hd1 a1 a2 a3]
          clear a1 a2 a3 hd1 hd2 hd3 hd4;go_wp2_with fail;go_quiet (fail);go_wp2_with fail;go_roundw
          case rel=>exact⟨q+1,by omega,by go_num,HS2.step (atd _ _)⟩
          case measure=>simp[intOf];omega
         ·have f2:(code == 0)=false:=by simp[a3]
          have f3:(D != 0)=false:=by simp[hd4 (fun h=>a3 h.2.2) (fun h=>by omega) (fun h=>by omega)]
          clear a1 a2 a3 hd1 hd2 hd3 hd4;go_wp2_with fail;go_quiet (fail);go_wp2_with fail;go_quiet (fail);go_wp2_with fail;go_roundw
          case rel=>exact⟨q+1,by omega,by go_num,HS2.step (atd _ _)⟩
          case measure=>simp[intOf];omega
        ·have f1:(k.toList == s.toList)=false:=beq_eq_false_iff_ne.2 (fun e=>a2 (Mth.toList_inj e));have f3:(D != 0)=false:=by simp[hd4 (fun h=>a2 h.2.1) (fun h=>by omega) (fun h=>by omega)]
         clear a1 a2 hd1 hd2 hd3 hd4;go_wp2_with fail;go_quiet (fail);go_wp2_with fail;go_quiet (fail);go_wp2_with fail;go_roundw
         case rel=>exact⟨q+1,by omega,by go_num,HS2.step (atd _ _)⟩
         case measure=>simp[intOf];omega
       have f0:(K == 0)=false:=by simp[a1]
       by_cases a6:K=6
       ·have f6:(K == 6)=true:=by simp[a6]
        by_cases b1:mK=1
        ·have g1:(mK == 1)=true:=by simp[b1]
         have g2:(mK == 2)=false:=by simp[b1]
         by_cases b2:mk=s
         ·have g3:(mk.toList == s.toList)=true:=by simp[b2]
          have hd:=hd2 a6 b1 b2;clear a1 a6 b1 b2 hd1 hd2 hd3 hd4;by_cases z0:D=0
          ·have f3:(D != 0)=false:=by simp[z0]
           clear z0 hd;go_wp2_with fail;go_quiet (fail);go_wp2_with fail;go_quiet (fail);go_wp2_with fail;go_roundw
           case rel=>exact⟨q+1,by omega,by go_num,HS2.step (atd _ _)⟩
           case measure=>simp[intOf];omega
          ·have f3:(D != 0)=true:=by simp[z0]
           have f4:(D != mN)=false:=by simp[hd.resolve_left z0]
           clear z0 hd;go_wp2_with fail;go_quiet (fail);go_wp2_with fail;go_quiet (fail);go_wp2_with fail;go_roundw
           case rel=>exact⟨q+1,by omega,by go_num,HS2.step (atd _ _)⟩
           case measure=>simp[intOf];omega
         ·have g3:(mk.toList == s.toList)=false:=beq_eq_false_iff_ne.2 (fun e=>b2 (Mth.toList_inj e));have f3:(D != 0)=false:=by simp[hd4 (fun h=>a1 h.1) (fun h=>b2 h.2.2) (fun h=>by omega)]
          clear a1 a6 b1 b2 hd1 hd2 hd3 hd4;go_wp2_with fail;go_quiet (fail);go_wp2_with fail;go_quiet (fail);go_wp2_with fail;go_roundw
          case rel=>exact⟨q+1,by omega,by go_num,HS2.step (atd _ _)⟩
          case measure=>simp[intOf];omega
        have g1:(mK == 1)=false:=by simp[b1]
        by_cases b3:mK=2
        ·have g2:(mK == 2)=true:=by simp[b3]
         have f3:decide (D > 0)=false:=decide_eq_false (by have:=hd3 a6 b3;omega);clear a1 a6 b1 b3 hd1 hd2 hd3 hd4;go_wp2_with fail;go_quiet (fail);go_wp2_with fail;go_quiet (fail);go_wp2_with fail;go_roundw
         case rel=>exact⟨q+1,by omega,by go_num,HS2.step (atd _ _)⟩
         case measure=>simp[intOf];omega
        ·have g2:(mK == 2)=false:=by simp[b3]
         have f3:(D != 0)=false:=by simp[hd4 (fun h=>a1 h.1) (fun h=>b1 h.2.1) (fun h=>b3 h.2)]
         clear a1 a6 b1 b3 hd1 hd2 hd3 hd4;go_wp2_with fail;go_quiet (fail);go_wp2_with fail;go_quiet (fail);go_wp2_with fail;go_roundw
         case rel=>exact⟨q+1,by omega,by go_num,HS2.step (atd _ _)⟩
         case measure=>simp[intOf];omega
       have f6:(K == 6)=false:=by simp[a6]
       have f3:(D != 0)=false:=by simp[hd4 (fun h=>a1 h.1) (fun h=>a6 h.1) (fun h=>a6 h.1)]
       clear a1 a6 hd1 hd2 hd3 hd4;go_wp2_with fail;go_quiet (fail);go_wp2_with fail;go_quiet (fail);go_wp2_with fail;go_roundw
       case rel=>exact⟨q+1,by omega,by go_num,HS2.step (atd _ _)⟩
       case measure=>simp[intOf];omega
     ·have hqe:q=2:=by omega
      subst hqe;obtain⟨c0,c1,c2,c3,c4,c5,c6,c7,c8⟩:=nine (HS.at 5 I4);go_wp2_with fail;refine(PY Am _ (HS.nd 4 rfl)).mono ?_;rintro e w8 ⟨rfl,Bd⟩;have Qd:=hide (HS.step Bd);clear Bd HS c0 c1 c2 c3 c4 c5 c6 c7 c8;go_wp2_with fail;go_ret;exact⟨rfl,Qd.bel⟩
end Go.Proofs.YtacgbldlonoaaaaGreatDoor
