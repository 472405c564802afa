/- Parts. -/
import Derived.Test.YtacgbldlonoaaaaGreatDoorRa27
import Derived.Test.YtacgbldlonoaaaaGreatDoorRa35
import Derived.Test.YtacgbldlonoaaaaGreatDoorRtZ1
namespace Go.Proofs.YtacgbldlonoaaaaGreatDoor
set_option maxHeartbeats 4000000
set_option maxRecDepth 100000
open Go.RowKit
open Mth
def atz (w:World) (R:Nd×Bool) (e:Ending) (w':World):Prop:=∃A',e= .returned (.tuple #[gu R.1 A',.bool R.2])∧(∃gk gs I c,RMc w' A' R.1 gk gs I c∧∀x,x < w.heap.size→c x=0)∧Below w.heap.size w w'∧A'.p=none∧A'.cp=0
theorem RM.zero {w:World} {B:Nat}:∃gk gs I c,RMc w ⟨none,none,none,none,none,0,0,0,0,0⟩ mV gk gs I c∧∀x,x < B→c x=0:=
 ⟨0,0,fun _=>0,fun _=>0,⟨GR.W.nil,GR.at_nil _ _,World.ownsRow_nil _ _ _ _,⟨⟨[],GR.W.nil,rfl,fun i hi=>by simp[mV] at hi⟩,fun h=>by simp[mV] at h⟩,World.ownsRow_nil _ _ _ _,fun x hx=>by simp[mV,fp] at hx,fun g hg=>by simp at hg,fun x hx=>by simp[Value.ownBlock] at hx,fun x hx=>by simp[mV,fp] at hx,fun x hx=>by simp[mV,nM] at hx,fun x hx=>by simp[Value.ownBlock] at hx,by simp[mV,nM]⟩,fun _ _=>rfl⟩
theorem RM.fresh {w:World} {B B2:Nat} {id par:Int} {kv v:Value} {kids fs:List Int} (hk:w.ownsRow B 3 1 kv kids.length (GR.flat aR kids)) (hkl:∀x,kv.ownBlock=some x→x < B2) (hs:w.ownsRow B2 90 3 v fs.length (GR.flat cu (fs.map mJ))) (hB:B≤B2):
 ∃A,Value.agg (VR id par kv v)=gu (dw id par kids fs) A∧(A.p=none∧A.cp=0)∧∃gk gs I c,RMc w A (dw id par kids fs) gk gs I c∧∀x,x < B→c x=0:=by
 obtain⟨a1,c1,g1,rfl,hW1,hr1,ho1⟩:=GR.W.of_own aN hk;have h':w.ownsRow B2 90 3 v (fs.map mJ).length (GR.flat cu (fs.map mJ)):=by rw [List.length_map];exact hs
 obtain⟨a2,c2,g2,e,hW2,hr2,ho2⟩:=GR.W.of_own bC h';rw [List.length_map] at e;subst e;have hfe:∀x,x∈fp g2 fs→x∈fp g2 (fs.map mJ):=fun x hx=>by have:=gD hx;rw [this.1];exact dz (by simpa using this.2)
 have hno:∀x,x∈fp g1 kids→x∉fp g2 fs:=fun x hx hx2=>by
  have h1:=hkl x (ho1 x hx)
  have h2:=(hr2 x (hfe x hx2)).1
  omega
 have hsq:lJ w a2 g2 (fun _=>0) (dw id par kids fs).seen:=by
  refine⟨⟨fs.map mJ,hW2,by simp[dw],fun i hi=>?_⟩,fun hp=>?_⟩
  ·have hi':i < fs.length:=by simpa [dw] using hi
   refine⟨none,0,by simp[hi',mJ,dw],?_⟩;have e0:((dw id par kids fs).seen[i]).ids=[]:=by simp[dw]
   rw [e0];exact⟨GR.W.nil,fun _=>rfl,fun h=>absurd rfl h⟩
  ·have hp':0 < fs.length:=by simpa [dw] using hp
   have hx:=ho2 g2 (dz (by simpa using hp'));rcases h'.2 with⟨_,hn⟩|⟨g',cap,cur,hv,_,hgg,_⟩
   ·rw [List.length_map] at hn;omega
   ·rw [List.length_map] at hv;rw [hv] at hx;have e3:g'=g2:=by simpa [Value.ownBlock] using hx
    rw [e3] at hgg;exact⟨cur,hgg⟩
 refine⟨⟨a1,none,none,a2,none,c1,0,0,c2,0⟩,by simp[VR,gu,fZ,dw],⟨rfl,rfl⟩,g1,g2,fun _=>0,fun x=>if x∈fp g1 kids then 1 else if x∈fp g2 fs then 4 else 0,⟨hW1,GR.at_nil _ _,World.ownsRow_nil _ _ _ _,hsq,World.ownsRow_nil _ _ _ _,fun x hx=>if_pos hx,fun g hg=>by simp at hg,fun x hx=>by simp[Value.ownBlock] at hx,fun x hx=>?_,fun x hx=>?_,fun x hx=>by simp[Value.ownBlock] at hx,?_⟩,fun x hx=>?_⟩
 ·rw [JY (l':=fs) (by simp[dw])] at hx;show(if _ then _ else _)=4
  rw [if_neg (fun h=>hno x h hx),if_pos hx]
 ·simp only[dw] at hx;rw [Mc] at hx;simp at hx
 ·simp only[dw];rw [Mc];exact List.nodup_nil
 ·show(if _ then _ else _)=0
  rw [if_neg (fun h=>by have:=(hr1 x h).1;omega),if_neg (fun h=>by have:=(hr2 x (hfe x h)).1;omega)]
theorem asK (id par:Int) (a:Option Addr) (cap:Nat) (kids:List Int) (w:World) (hl:kids.length≤1048576) (hcap:a=none→cap=0) (ha:dK w a kids):
 Calls Tryz.prog 13 #[.int .i64 id,.int .i64 par,.slice a kids.length cap] w (atz w (Io id par kids)):=by
 obtain⟨i0,hi,hz0,hz1,hz2⟩:=info_parts zM;obtain⟨j0,hj,hy0,hy1,hy2⟩:=info_parts vD;have HA:=hide ha;have HRB:=hide (heap_alloc_new w (.cells iO 30));clear ha;obtain⟨RN,hRN⟩:∃R,Io id par kids=R:=⟨_,rfl⟩;rw [hRN];have HRN:=hide hRN;clear hRN;unfold atz;go_enter Tryz.func13,Tryz.ntmps13
 go_upto_region 1 with fail;refine wp_at (fun W0 hW0=>?_);have HR0:Hid (W0.heap[w.heap.size]?=some (.cells iO 30 (0,0))):=by rw [hW0];exact HRB
 have HB0:Hid (Below w.heap.size w W0):=by rw [hW0];exact au w _
 have avs:Hid (W0.heap.size=w.heap.size+1):=by rw [hW0];exact hide (by simp)
 clear hW0 HRB;have hlit:(W0.alloc (.cells #[] 3)).ownsRow W0.heap.size 3 1 (.slice (some ⟨W0.heap.size,0,none⟩) 0 0) 0 []:=World.ownsRow_lit (base:=W0.heap.size) (e:=3) (size:=1) W0 #[] 0 (Nat.le_refl _) (by decide) rfl;go_cut [8] (fun p8 wx=>∃(nb:Nat) (ka:Option Addr) (kc:Nat),p8= .pointer (some ⟨nb,0,none⟩)∧wx.heap[nb]?=some (.cells (VR id par (.slice ka kids.length kc) (.slice none 0 0)) 30 (0,0))∧wx.ownsRow W0.heap.size 3 1 (.slice ka kids.length kc) kids.length (GR.flat aR kids)∧(∀x,(Value.slice ka kids.length kc).ownBlock=some x→x < nb)∧W0.heap.size < nb∧Below W0.heap.size W0 wx)
 case first=>
  cases a with
  |none=>
   have hl0:kids=[]:=GR.none_nil HA
   subst hl0
   have hc0:=hcap rfl
   subst hc0
   go_wp2_with (at_builtin;refine wpList_append_own_none rfl _ _ 24 rfl W0.heap.size 3 j0 1 Tryz.underlying24 hj _ 0 [] rfl hlit rfl ?_)
   go_meet
   case rel=>
    refine⟨W0.heap.size+1,some ⟨W0.heap.size,0,none⟩,0,rfl,?_,?_,?_,by omega,(au W0 _).alloc (by simp) _⟩
    ·have h:=heap_alloc_new (W0.alloc (.cells #[] 3)) (.cells (VR id par (.slice (some ⟨W0.heap.size,0,none⟩) 0 0) (.slice none 0 0)) 30);rwa [show(W0.alloc (.cells #[] 3)).heap.size=W0.heap.size+1 by simp] at h
    ·exact hlit.alloc _
    ·intro x hx;have:x=W0.heap.size:=by simpa [Value.ownBlock] using hx.symm
     omega
  |some x=>
   have HN:=hide (GR.At.news aN (by omega) (GR.At.below HA (HB0.trans ((au W0 (.cells #[] 3)).mono HB0.size))))
   go_wp2_with (at_builtin;refine wpList_append_own _ rfl _ _ 24 rfl W0.heap.size 3 j0 (.int .i64 0) 1 8 Tryz.underlying24 hj hy0 hy1 hy2 rfl (by decide) _ 0 [] rfl hlit x kids.length cap (GR.flat aR kids) rfl ?c0 ?c1 ?c2 ?c3 ?c4 ?c5 ?_)
   case c0=>exact GR.flat_length aR 1 aN kids
   case c1=>exact HN
   case c2=>exact GR.flat_oneCell JX kids
   case c3=>unfold maxLen;omega
   case c4=>omega
   case c5=>simp
   intro v' w1 hown' hgrow _
   have ho:w1.ownsRow W0.heap.size 3 1 v' kids.length (GR.flat aR kids):=by simpa using hown'
   have hb:Below W0.heap.size W0 w1:=(au W0 _).grown hgrow (by simp) (fun k hk=>by cases hk;exact Nat.le_refl _)
   have hs1:W0.heap.size+1≤w1.heap.size:=by have:=hgrow.size;simpa using this
   obtain⟨ka,kc,rfl,_⟩:=GR.own_at (enc:=aR) (sz:=1) aN ho
   have HO:=hide ho
   have HB:=hide hb
   clear hown' hgrow ho hb hlit
   go_wp2_with fail
   go_meet
   case rel=>exact⟨w1.heap.size,ka,kc,rfl,heap_alloc_new _ _,HO.alloc _,fun x hx=>(HO.lt x hx).2,by omega,HB.alloc HB.size _⟩
 case rest=>
  obtain⟨nb,ka,kc,rfl,hnb,hko,hkl,avV,hb0⟩:=hcut;have avI:=ah avs;have AQ:=hide (GR.own_lower (b':=w.heap.size+1) hko (by omega));have HKL:=hide hkl;have HR3:=hide (aj HR0 hb0);have HB3:=hide (HB0.trans (hb0.mono HB0.size));have HNN:=hide (show NN wc wc nb id par (.slice ka kids.length kc) (.slice none 0 0) [] from⟨aC.refl _ _,hnb,World.ownsRow_nil _ _ _ _,aA hnb⟩);have asa:nb < wc.heap.size:=aA hnb;have ar1:w.heap.size < nb:=by omega
  clear avI;have HFS:Hid ((bQ (dw id par kids [])=true→Io id par kids=(dw id par kids (tZ (dw id par kids []) 30),true)∧dG (dw id par kids (tZ (dw id par kids []) 30))=true)∧(bQ (dw id par kids [])=false→Io id par kids=(mV,false)∧dG (dw id par kids (tZ (dw id par kids []) 30))=false)):=⟨fun h=>⟨VQ h (an8 h),abK id par kids _ h (an8 h)⟩,fun h=>⟨abJ h,abL id par kids _ h⟩⟩;rw [ah HRN] at HFS;have HNS:=hide (aae (dw id par kids []))
  have HNL:Hid (∀k,(tZ (dw id par kids []) k).length≤k):=fun k=>by
   have h:=List.length_filter_le (dB (dw id par kids [])) (upTo k)
   unfold tZ
   simpa [upTo] using h
  have Fz:Hid (tZ (dw id par kids []) 0=[]):=rfl;have Js:Hid (∀fs A W x,dK W A.k kids→Calls Tryz.prog 47 #[gu (dw id par kids fs) A,.int .i64 x] W fun e w'=>e= .returned (.bool (dB (dw id par kids []) x))∧Below W.heap.size W w'):=fun fs A W x h=>Aq (dw id par kids fs) A x W (by show kids.length≤1048600;omega) h
  generalize bQ (dw id par kids [])=PB at *;generalize dB (dw id par kids [])=NB at *;generalize tZ (dw id par kids [])=NU at *;clear hnb hko hkl hb0 HR0 HB0 hlit;go_wp2_with fail;go_loopw [9] (fun i wr=>∃(k:Nat) (v:Value),k≤30∧i= .int .i64 k∧NN wc wr nb id par (.slice ka kids.length kc) v (NU k)) (fun i _=>30 - (intOf i).toNat)
  case atStart=>exact⟨0,.slice none 0 0,Nat.zero_le _,rfl,by rw [ah Fz];exact HNN⟩
  case round=>
   obtain⟨k,v,hk,rfl,hN⟩:=hrel;have HN:=hide hN
   have O9:Hid (wr.ownsRow (w.heap.size+1) 3 1 (.slice ka kids.length kc) kids.length (GR.flat aR kids)):=AQ.kept (row:=some nb) ⟨hN.keep.os,hN.keep.tape,hN.keep.output,hN.keep.size,fun j hj hjn=>hN.keep.block j hj (fun e=>hjn (by rw [vI e]))⟩ (by
    cases hv:(Value.slice ka kids.length kc).ownBlock with
    |none=>exact .inl rfl
    |some j=>exact .inr (fun e=>by have:=ah HKL j hv;injection e with e;omega))
   obtain⟨va,vc,hv,_⟩:=GR.own_at (enc:=cu) (sz:=3) (l:=(NU k).map mJ) bC (by rw [List.length_map];exact hN.own);rw [List.length_map] at hv;subst hv;obtain⟨A4,ZQ,anG⟩:=zY (id:=id) (par:=par) O9 hN.own;have Us:=hide (HNL k);by_cases hlt:k < 30
   ·have HNC:=hide (Js (NU k) A4 wr (k:Int) anG.k);rw [←ZQ] at HNC;have hSU:=ah HNS k;obtain⟨c0,c1,c2,c3,c4,c5,c6,c7,c8⟩:=nine hN.blk;clear ZQ anG hN;have HSU:=hide hSU;clear hSU;go_wp2_with fail;refine HNC.mono ?_;rintro e w4 ⟨rfl,hb4⟩;have HN4:=hide (HN.step hb4);clear hb4 c0 c1 c2 c3 c4 c5 c6 c7 c8 HNC HN O9;obtain⟨c0,c1,c2,c3,c4,c5,c6,c7,c8⟩:=nine HN4.blk;have hkw:=HN4.keep.size;cases auw:NB (k:Int)
    ·have HE:=hide (show NU (k+1)=NU k by rw [ah HSU,if_neg (by rw [auw];simp)]);clear auw HSU;go_wp2_with fail;go_roundw
     case rel=>exact⟨k+1,.slice va (NU k).length vc,by omega,by go_num,by rw [ah HE];exact HN4⟩
     case measure=>simp[intOf];omega
    ·have HE:=hide (show NU (k+1)=NU k++[(k:Int)] by rw [ah HSU,if_pos (by rw [auw])]);clear auw HSU;have hown:=HN4.own;have hf6:=ay HN4.blk 6;have arS:(NU k).length≤30:=Nat.le_trans Us hk;go_wp2_with (at_builtin;refine wpList_append_own _ rfl _ _ 27 rfl wc.heap.size 90 i0 (.agg #[.int .i64 0,.int .i64 0,.slice none 0 0]) 3 40 Tryz.underlying27 hi hz0 hz1 hz2 rfl (by decide) _ _ _ rfl (hown.alloc _) ⟨w4.heap.size,0,none⟩ 1 1 (cu (mJ (k:Int))) rfl rfl ?c1 ?c2 ?c3 ?c4 ?c5 ?_)
     case c1=>exact World.news_of_block (heap_alloc_new w4 _)
     case c2=>exact abO _
     case c3=>unfold maxLen;omega
     case c4=>omega
     case c5=>simp;omega
     intro v' w5 hown' hgrow _
     obtain⟨va2,vc2,hv,_⟩:=GR.own_at (enc:=cu) (sz:=3) (l:=(NU k++[(k:Int)]).map mJ) bC (by
      have e2:GR.flat cu ((NU k++[(k:Int)]).map mJ)=GR.flat cu ((NU k).map mJ)++cu (mJ (k:Int)):=by rw [List.map_append,GR.flat_append];simp[GR.flat]
      rw [e2,List.length_map,List.length_append]
      exact hown')
     rw [List.length_map,List.length_append] at hv;have hv':v'= .slice va2 ((NU k).length+1) vc2:=hv;clear hv;subst hv';have HA5:=hide (HN4.app (k:Int) hown' hgrow)
     have hb5:w5.heap[nb]?=some (.cells (VR id par (.slice ka kids.length kc) (.slice va (NU k).length vc)) 30 (0,0)):=by
      rw [hgrow.block nb (by simp;omega) (fun e=>by have:=(hown.lt _ e.symm).1;omega),Below.heap_alloc _ _ _ (by omega)];exact HN4.blk
     obtain⟨e0,e1,e2,e3,e4,e5,e6,e7,e8⟩:=nine hb5;have g6:=ay hb5 6;clear hown' hgrow hb5 hown c0 c1 c2 c3 c4 c5 c6 c7 c8 hf6;go_wp2_with fail;go_roundw
     case rel=>exact⟨k+1,.slice va2 ((NU k).length+1) vc2,by omega,by go_num,by rw [ah HE];exact HA5⟩
     case measure=>simp[intOf];omega
   ·obtain rfl:k=30:=by omega
    have HR4:Hid (wr.heap[w.heap.size]?=some (.cells iO 30 (0,0))):=hN.keep.obj HR3 (by simp;omega);have nK:Hid (Below w.heap.size w wr):=HB3.trans (hN.keep.below (fun x hx=>by have:=vI hx;omega) HB3.size);have ku:=hide (Ar (dw id par kids (NU 30)) A4 wr (abR (by omega) (by have:=ah Us;omega)) anG);rw [←ZQ] at ku;obtain⟨hY,hX⟩:=ah HFS;have HY:=hide hY;have HX:=hide hX;obtain⟨c0,c1,c2,c3,c4,c5,c6,c7,c8⟩:=nine hN.blk;clear hN ZQ anG hY hX HFS;generalize dG (dw id par kids (NU 30))=OK at *;generalize NU 30=F at *;go_wp2_with fail;refine ku.mono ?_;rintro e w5 ⟨rfl,hb5⟩;have HN5:=hide (HN.step hb5);have CB:=hide (GR.own_below O9 hb5);have Lp:=hide (aj HR4 hb5);have jJ:=hide (nK.trans (hb5.mono nK.size));clear hb5 c0 c1 c2 c3 c4 c5 c6 c7 c8 ku;obtain⟨c0,c1,c2,c3,c4,c5,c6,c7,c8⟩:=nine HN5.blk;obtain⟨r0,r1,r2,r3,r4,r5,r6,r7,r8⟩:=nine Lp;have f0:=ay Lp 0;have f1:=ay Lp 1;have f2:=ay Lp 2;have f3:=ay Lp 3;have f4:=ay Lp 4;have f5:=ay Lp 5;have f6:=ay Lp 6;have f7:=ay Lp 7;have f8:=ay Lp 8;cases hPB:PB
    ·obtain⟨e1,e2⟩:=ah HX hPB;subst e1 e2;clear hPB HX HY;go_wp2_with fail;refine aO (fun W' hW'=>?_);have hR:=Ip (b0:= .int .i64 0) (b1:= .int .i64 0) (b2:= .slice none 0 0) (b3:= .int .i64 0) (b4:= .slice none 0 0) (b5:= .slice none 0 0) (b6:= .slice none 0 0) (b7:= .int .i64 0) (b8:= .slice none 0 0) Lp;have hK:=zX (w:=w5) (g:=w.heap.size) (b0:= .int .i64 0) (b1:= .int .i64 0) (b2:= .slice none 0 0) (b3:= .int .i64 0) (b4:= .slice none 0 0) (b5:= .slice none 0 0) (b6:= .slice none 0 0) (b7:= .int .i64 0) (b8:= .slice none 0 0);rw [←hW'] at hR hK;obtain⟨x0,x1,x2,x3,x4,x5,x6,x7,x8⟩:=nine hR;refine bodyPost_ret (v:= .tuple #[gu mV ⟨none,none,none,none,none,0,0,0,0,0⟩,.bool false]) (by simp[results,Tryz.results13,go_sem,x0,x1,x2,x3,x4,x5,x6,x7,x8,mV]) rfl ⟨_,rfl,RM.zero,jJ.trans (hK.below (fun x hx=>by have:=vI hx;omega) jJ.size),rfl,rfl⟩
    ·obtain⟨e1,e2⟩:=ah HY hPB;subst e1 e2;clear hPB HX HY;go_wp2_with fail;refine aO (fun W' hW'=>?_);have hR:=Ip (b0:= .int .i64 id) (b1:= .int .i64 par) (b2:=(.slice ka kids.length kc)) (b3:= .int .i64 1) (b4:= .slice none 0 0) (b5:= .slice none 0 0) (b6:= .slice va F.length vc) (b7:= .int .i64 0) (b8:= .slice none 0 0) Lp;have hK:=zX (w:=w5) (g:=w.heap.size) (b0:= .int .i64 id) (b1:= .int .i64 par) (b2:=(.slice ka kids.length kc)) (b3:= .int .i64 1) (b4:= .slice none 0 0) (b5:= .slice none 0 0) (b6:= .slice va F.length vc) (b7:= .int .i64 0) (b8:= .slice none 0 0);rw [←hW'] at hR hK;obtain⟨x0,x1,x2,x3,x4,x5,x6,x7,x8⟩:=nine hR;have hBW:=jJ.trans (hK.below (B:=w.heap.size) (fun x hx=>by have:=vI hx;omega) jJ.size);obtain⟨A9,e9,hA9,hRM⟩:=RM.fresh (w:=W') (id:=id) (par:=par) (cK CB hK (fun x hx=>by have:=vI hx;omega)) (fun x hx=>by have:=ah HKL x hx;omega) (cK HN5.own hK (fun x hx=>by have:=vI hx;omega)) (B2:=wc.heap.size) (by omega);have e9':=e9;unfold VR at e9';refine bodyPost_ret (v:= .tuple #[gu (dw id par kids F) A9,.bool true]) (by rw [←e9];simp[results,Tryz.results13,go_sem,x0,x1,x2,x3,x4,x5,x6,x7,x8]) rfl ⟨_,rfl,?_,hBW,hA9⟩;obtain⟨gk,gs,I,c,h1,h2⟩:=hRM;exact⟨gk,gs,I,c,h1,fun x hx=>h2 x (by omega)⟩
structure NSx (w:World) (bs:List (Nat×Obj)) (ns:List (bE×Nd)) (ms:List (Option Addr×List Mg)) (W:World):Prop where
 bel:Below w.heap.size w W
 own:∀x∈bs,W.heap[x.1]?=some x.2
 nod:∀x∈ns,dQ W x.1 x.2
 msg:∀x∈ms,Qn W x.1 x.2
section
variable {w W W':World} {bs:List (Nat×Obj)} {ns:List (bE×Nd)} {ms:List (Option Addr×List Mg)}
theorem NSx.start (hb:Below w.heap.size w W):NSx w [] [] [] W:=⟨hb,fun _ h=>by simp at h,fun _ h=>by simp at h,fun _ h=>by simp at h⟩
theorem NSx.step (h:NSx w bs ns ms W) (hb:Below W.heap.size W W'):NSx w bs ns ms W':=⟨h.bel.trans (hb.mono h.bel.size),fun x hx=>aj (h.own x hx) hb,fun x hx=>(h.nod x hx).below hb,fun x hx=>GR.At.below (h.msg x hx) hb⟩
theorem NSx.addB {o:Obj} (h:NSx w bs ns ms W) (hW:W'=W.alloc o):NSx w ((W.heap.size,o)::bs) ns ms W':=by
 subst hW;have h2:=h.step (au W o)
 exact⟨h2.bel,fun x hx=>by
  rcases List.mem_cons.1 hx with rfl|hx
  ·exact heap_alloc_new W o
  ·exact h2.own x hx,h2.nod,h2.msg⟩
theorem NSx.addN {A:bE} {n:Nd} (h:NSx w bs ns ms W) (ha:dQ W A n):NSx w bs ((A,n)::ns) ms W:=⟨h.bel,h.own,fun x hx=>by
 rcases List.mem_cons.1 hx with rfl|hx
 ·exact ha
 ·exact h.nod x hx,h.msg⟩
theorem NSx.addM {a:Option Addr} {l:List Mg} (h:NSx w bs ns ms W) (ha:Qn W a l):NSx w bs ns ((a,l)::ms) W:=⟨h.bel,h.own,h.nod,fun x hx=>by
 rcases List.mem_cons.1 hx with rfl|hx
 ·exact ha
 ·exact h.msg x hx⟩
theorem NSx.at (h:NSx w bs ns ms W) (i:Nat) {g:Nat} {o:Obj} (e:bs[i]?=some (g,o)):W.heap[g]?=some o:=h.own (g,o) (List.mem_of_getElem? e)
theorem NSx.nd (h:NSx w bs ns ms W) (i:Nat) {A:bE} {n:Nd} (e:ns[i]?=some (A,n)):dQ W A n:=h.nod (A,n) (List.mem_of_getElem? e)
theorem NSx.mg (h:NSx w bs ns ms W) (i:Nat) {a:Option Addr} {l:List Mg} (e:ms[i]?=some (a,l)):Qn W a l:=h.msg (a,l) (List.mem_of_getElem? e)
end
def atC (w:World) (R:Nd×List Mg×Int) (e:Ending) (w':World):Prop:=∃A' a' c',e= .returned (.tuple #[gu R.1 A',.slice a' R.2.1.length c',.int .i64 R.2.2])∧dQ w' A' R.1∧Qn w' a' R.2.1∧Below w.heap.size w w'
def atA (w:World) (R:Nd×Bool) (e:Ending) (w':World):Prop:=∃A',e= .returned (.tuple #[gu R.1 A',.bool R.2])∧dQ w' A' R.1∧Below w.heap.size w w'
theorem avo (n:Nd) (A:bE) (o:jE) (E:Nat→Addr) (w:World) (hz:eH n 1048576) (hk:o.k.size≤20) (hmk:o.m.k.size≤20) (ha:dQ w A n) (he:gW w E):
 Calls Tryz.prog 8 #[gu n A,jH o] w (atC w (Pn n o)):=by
 refine(abD n A o E w hz (by omega) (by omega) ha he).mono ?_;rintro e w' ⟨A',G',c',v',rfl,hN,hM,_,hb⟩;obtain⟨a',cp',hv,_⟩:=GR.own_at (enc:=gX) (sz:=7) (l:=(Pn n o).2.1) iR hM;subst hv;exact⟨A',a',cp',rfl,hN.at,GR.own_ati iR hM,hb⟩
theorem avq (n:Nd) (A:bE) (o:jE) (w:World) (hz:eH n 1048576) (hk:o.k.size≤20) (hmk:o.m.k.size≤20) (ha:dQ w A n):
 Calls Tryz.prog 9 #[gu n A,jH o] w (atC w (Pn n o)):=by
 obtain⟨K,no,k,nn,⟨mK,mF,mT,mI,mL,mk,mN⟩⟩:=o;refine(abQ n A K no k nn mK mF mT mI mL mk mN w hz (by dsimp only at hk;omega) (by dsimp only at hmk;omega) ha).mono ?_;rintro e w' ⟨A',a',c',rfl,hN,hM,hb⟩;exact⟨A',a',c',rfl,(hN _ Dx.refl).at,hM _ Dx.refl,hb⟩
theorem avi (id par:Int) (a:Option Addr) (cap:Nat) (kids:List Int) (w:World) (hl:kids.length≤5) (ha:dK w a kids):
 Calls Tryz.prog 12 #[.int .i64 id,.int .i64 par,.slice a kids.length cap] w (atA w (Io id par kids)):=by
 refine(Z5 id par a cap kids w (by omega) ha).mono ?_;rintro e w' ⟨A',rfl,G,hN,_,hb⟩;exact⟨A',rfl,hN.at,hb⟩
theorem avm (id par:Int) (g cap:Nat) (kids:List Int) (w:World) (hl:kids.length≤5) (ha:dK w (some ⟨g,0,none⟩) kids):
 Calls Tryz.prog 13 #[.int .i64 id,.int .i64 par,.slice (some ⟨g,0,none⟩) kids.length cap] w (atA w (Io id par kids)):=by
 refine(asK id par (some ⟨g,0,none⟩) cap kids w (by omega) (fun e=>by cases e) ha).mono ?_;rintro e w' ⟨A',rfl,⟨gk,gs,I,c,hR,_⟩,hb,_⟩;exact⟨A',rfl,hR.at,hb⟩
namespace Mth
theorem asB {n:Nd} {o:jE} (h:(Pn n o).2.2≠3):dG n=true∧bX o=true∧sH n o=true∧Pn n o=dW n o:=by
 cases h1:dG n with
 |false=>rw [Ed h1] at h;exact absurd rfl h
 |true=>
  rw [JW h1] at h ⊢
  cases h2:bX o&&sH n o with
  |false=>unfold kR at h;rw [h2] at h;exact absurd rfl h
  |true=>
   have h3:=h2
   rw [Bool.and_eq_true] at h3
   refine⟨rfl,h3.1,h3.2,?_⟩
   unfold kR
   rw [h2]
   rfl
end Mth
namespace Mth
theorem auD {l:List Pu} {p q:Pu} (h:q∈l) (hk:q.k≠p.k):q∈gV l p:=by
 rw [←rG l p.k] at h;unfold gV;rcases List.mem_append.1 h with h|h
 ·exact List.mem_append_left _ h
 ·refine List.mem_append_right _ (List.mem_cons_of_mem _ ?_);unfold jf;split
  ·rename_i e
   rw [e] at h;simp at h
  ·rename_i x r e
   rw [e] at h;split
   ·rename_i hx
    rcases List.mem_cons.1 h with rfl|h
    ·exact absurd (toList_inj (by simpa using hx)) hk
    ·exact h
   ·exact h
theorem atl {l:List Pu} (hp:l.Pairwise Ez) (p:Pu) (hpw:(gV l p).Pairwise Ez) (k:ByteArray):aF (gV l p) k=if k=p.k then p else aF l k:=by
 by_cases hk:k=p.k
 ·rw [if_pos hk,hk];exact nH hpw (by unfold gV;simp)
 ·rw [if_neg hk];by_cases hex:∃q∈gV l p,q.k=k
  ·obtain⟨q,hq,rfl⟩:=hex;rw [nH hpw hq];have hq':q∈l:=(put_mem hq).resolve_left (fun e=>hk (by rw [e]));rw [nH hp hq']
  ·rw [EG (fun q hq e=>hex ⟨q,hq,e⟩)];exact(EG (fun q hq e=>hex ⟨q,auD hq (by rw [e];exact hk),e⟩)).symm
def asG (l:List Pu) (k:ByteArray):Int:=(aF l k).f+(aF l k).s
theorem asC {l:List Pu} {key:ByteArray} {dm df ds n:Int} (k:ByteArray) (h:ig l=true):asG (bV l key dm df ds n).1 k=asG l k+(if (bV l key dm df ds n).2=true∧k=key then df*n+ds*n else 0):=by
 by_cases hn:1≤n∧n≤1000000000
 ·rw [D6 h hn];cases hc:fH (dR (aF l key) dm df ds n)&&decide ((gV l (dR (aF l key) dm df ds n)).length≤20) with
  |false=>simp
  |true=>
   have hp2:ig (gV l (dR (aF l key) dm df ds n))=true:=by rw [Tf _ h];exact hc
   have hw:=((iU l).1 h).2.1
   have hw2:=((iU _).1 hp2).2.1
   have hkk:(dR (aF l key) dm df ds n).k=key:=mh l key
   simp only[if_true]
   unfold asG
   rw [atl hw _ hw2,hkk]
   by_cases hk:k=key
   ·subst hk;rw [if_pos rfl,if_pos ⟨trivial,rfl⟩];unfold dR;dsimp only;omega
   ·rw [if_neg hk,if_neg (fun e=>hk e.2)];omega
 ·rw [D7 hn];simp
def asy (k:ByteArray):List jm→Int
 |[]=>0
 |x::l=>(if x.k=k then x.n else 0)+asy k l
theorem ath (k:ByteArray) (l m:List jm):asy k (l++m)=asy k l+asy k m:=by
 induction l with
 |nil=>simp[asy]
 |cons x l ih=>simp only[List.cons_append,asy,ih];omega
theorem ati {k:ByteArray} {p:jm→Bool} {l:List jm} (h:∀x∈l,0≤x.n):asy k (l.filter p)≤asy k l:=by
 induction l with
 |nil=>simp
 |cons x l ih=>
  have ih':=ih (fun y hy=>h y (List.mem_cons_of_mem _ hy))
  have hx:=h x (by simp)
  rw [List.filter_cons]
  split
  ·simp only[asy];split<;>omega
  ·simp only[asy];split<;>omega
def aso (n:Nd) (k:ByteArray):Int:=asG n.pu k+asy k n.out
theorem atY {n:Nd} {key k:ByteArray} {a:Int} (h:ig n.pu=true):aso (setPu n (bV n.pu key 1 1 0 a).1) k=aso n k+(if (bV n.pu key 1 1 0 a).2=true∧k=key then a else 0):=by
 unfold aso;show asG (bV n.pu key 1 1 0 a).1 k+asy k n.out=_
 rw [asC k h];split<;>omega
theorem asM {n:Nd} {key k:ByteArray} {a df ds:Int} (h:ig n.pu=true) (hd:df+ds=0) (l:List Rq) (x:Int):aso (dD (jR (setPu n (bV n.pu key 0 df ds a).1) x) l) k=aso n k:=by
 unfold aso;show asG (bV n.pu key 0 df ds a).1 k+asy k n.out=_
 rw [asC k h];have hz:df*a+ds*a=0:=by rw [←Int.add_mul,hd,Int.zero_mul]
 split<;>omega
theorem atW {n:Nd} {key k:ByteArray} {a:Int} (h:ig n.pu=true) (q:Rq):aso (jO (setPu n (bV n.pu key 0 (-1) 1 a).1) q) k=aso n k:=by
 unfold jO;split
 ·exact asM h rfl _ _
 ·exact asM h rfl _ n.old
theorem atH {n:Nd} {key k:ByteArray} {no a:Int} (h:ig n.pu=true):aso (eP n no key a).1 k=aso n k:=by
 unfold eP;split
 ·rfl
 ·split
  ·rfl
  ·exact atW h _
theorem atb {n:Nd} {k:ByteArray} {no:Int} (h:ig n.pu=true):aso (aX n no).1 k=aso n k:=by
 unfold aX;split
 ·rfl
 ·split
  ·rfl
  ·split
   ·rfl
   ·split
    ·rfl
    ·split
     ·exact asM (df:=1) (ds:= -1) h rfl _ n.old
     ·rfl
theorem ata {n:Nd} {key k:ByteArray} {dst most:Int} (h:ig n.pu=true) (hk:keyOk key.data.toList=true) (hm:most≤1000000000):aso (dV n dst key most).1 k=aso n k:=by
 unfold dV;split
 ·rename_i hp
  unfold Iu at hp;have hp':1≤lN n key most∧n.out.length < 40∧n.next < 1000000000:=of_decide_eq_true hp
  have ha:lN n key most≤(aF n.pu key).f∧lN n key most≤1000000000:=by
   unfold lN at *;split<;>omega
  have hok:=VT h hk hp'.1 ha.1 ha.2;unfold aso nG;dsimp only;rw [asC k h,hok,ath];simp only[asy,true_and];by_cases hkk:k=key
  ·subst hkk;simp;omega
  ·rw [if_neg hkk,if_neg (fun e=>hkk e.symm)];omega
 ·rfl
theorem atZ {n:Nd} {m:Mg} {k:ByteArray} (h:ig n.pu=true):aso (takeN n m).1 k=aso n k∨(k=m.k∧aso (takeN n m).1 k=aso n k+m.N):=by
 unfold takeN;split
 ·exact .inl rfl
 ·split
  ·by_cases hk:k=m.k
   ·rename_i hg
    unfold jN at hg;rw [Bool.and_eq_true] at hg;refine .inr ⟨hk,?_⟩;unfold aso;show asG (bV n.pu m.k 0 1 0 m.N).1 k+asy k n.out=_
    rw [asC k h,if_pos ⟨hg.1,hk⟩];omega
   ·left
    unfold aso;show asG (bV n.pu m.k 0 1 0 m.N).1 k+asy k n.out=_
    rw [asC k h,if_neg (fun e=>hk e.2)];omega
  ·exact .inl rfl
theorem avG {n:Nd} {o:jE} (k:ByteArray) (h:(Pn n o).2.2≠3):
 (o.K=0→o.k=k→(Pn n o).2.2=0→aso (Pn n o).1 k - aso n k=o.n)∧
 (o.K=6→o.m.K=1→o.m.k=k→aso (Pn n o).1 k - aso n k=0∨aso (Pn n o).1 k - aso n k=o.m.N)∧
 (o.K=6→o.m.K=2→aso (Pn n o).1 k - aso n k≤0)∧
 (¬(o.K=0∧o.k=k∧(Pn n o).2.2=0)→¬(o.K=6∧o.m.K=1∧o.m.k=k)→¬(o.K=6∧o.m.K=2)→aso (Pn n o).1 k - aso n k=0):=by
 obtain⟨h1,h2,h3,h4⟩:=asB h;obtain⟨hpl,hps,_,_,hout,_⟩:=bq h1
 have hpos:∀x∈n.out,0≤x.n:=by
  intro x hx;have:=(og hout).2.2 x hx;unfold qy eD at this;simp only[Bool.and_eq_true,decide_eq_true_eq] at this;omega
 rw [h4];rcases Dj h2 with hK|hK|hK|hK|hK|hK|hK
 ·have e:dW n o=if n.par= -1∧(bV n.pu o.k 1 1 0 o.n).2=true then(setPu n (bV n.pu o.k 1 1 0 o.n).1,[],0) else(n,[],1):=by unfold dW;rw [if_pos hK]
  rw [e];split
  ·rename_i hc
   have hm:=atY (k:=k) (key:=o.k) (a:=o.n) hps;rw [hc.2] at hm;dsimp only;refine⟨fun _ hk _=>?_,fun h=>by omega,fun h=>by omega,fun hno _ _=>?_⟩
   ·rw [hm,if_pos ⟨rfl,hk.symm⟩];omega
   ·rw [hm,if_neg (fun e=>hno ⟨hK,e.2.symm,rfl⟩)];omega
  ·dsimp only;exact⟨fun _ _ hc=>absurd hc (by decide),fun h=>by omega,fun h=>by omega,fun _ _ _=>by omega⟩
 ·have e:(dW n o).1=(eP n o.no o.k o.n).1:=by unfold dW;rw [if_neg (by omega),if_pos hK]
  rw [e,atH hps];exact Zb3
 ·have e:(dW n o).1=(aX n o.no).1:=by unfold dW;rw [if_neg (by omega),if_neg (by omega),if_pos hK]
  rw [e,atb hps];exact Zb3
 ·have e:(dW n o).1=n:=by
   unfold dW;rw [if_neg (by omega),if_neg (by omega),if_neg (by omega),if_pos hK];split<;>rfl
  rw [e];exact Zb3
 ·obtain⟨hk1,_,hk3⟩:=Ir h2 (.inr (.inr hK))
  have e:aso (dW n o).1 k=aso n k:=by
   unfold dW;rw [if_neg (by omega),if_neg (by omega),if_neg (by omega),if_neg (by omega),if_pos hK];split
   ·rfl
   ·exact ata hps hk1 hk3
  rw [e];exact Zb3
 ·have e:(dW n o).1=n:=by
   unfold dW;rw [if_neg (by omega),if_neg (by omega),if_neg (by omega),if_neg (by omega),if_neg (by omega),if_pos hK]
  rw [e];exact Zb3
 ·have e:dW n o=eF n o.m:=by
   exact Zb6
  have hmo:=Di h2 hK;rw [e];rcases Df hmo with hM|hM|hM
  ·obtain⟨hk1,_,hk3⟩:=Dg hmo hM
   have e2:aso (eF n o.m).1 k=aso n k:=by
    unfold eF;rw [if_neg (by omega),if_neg (by omega)];split
    ·exact ata hps hk1 hk3
    ·rfl
   rw [e2];exact⟨fun h=>by omega,fun _ h=>by omega,fun _ h=>by omega,fun _ _ _=>by omega⟩
  ·have e2:(eF n o.m).1=(takeN n o.m).1:=by unfold eF;rw [if_pos hM]
   rw [e2];have ht:=atZ (m:=o.m) (k:=k) hps;refine⟨fun h=>by omega,fun _ _ _=>by rcases ht with h|⟨_,h⟩<;>omega,fun _ h=>by omega,fun _ hno _=>?_⟩;rcases ht with h|⟨hk,h⟩
   ·omega
   ·exact absurd ⟨hK,hM,hk.symm⟩ hno
  ·have e2:(eF n o.m).1=setOut n (n.out.filter (fun s=> !gP o.m s)):=by unfold eF;rw [if_neg (by omega),if_pos hM]
   rw [e2];have hf:asy k (n.out.filter (fun s=> !gP o.m s))≤asy k n.out:=ati hpos;have e3:aso (setOut n (n.out.filter (fun s=> !gP o.m s))) k=asG n.pu k+asy k (n.out.filter (fun s=> !gP o.m s)):=rfl;rw [e3];unfold aso;exact⟨fun h=>by omega,fun _ h=>by omega,fun _ _=>by omega,fun _ _ hno=>absurd ⟨hK,hM⟩ hno⟩
end Mth
end Go.Proofs.YtacgbldlonoaaaaGreatDoor
