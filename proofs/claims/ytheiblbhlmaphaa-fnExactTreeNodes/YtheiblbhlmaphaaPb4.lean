/-
  TrLawTreeNodes, NdOpen, TrOpen.
-/
import Derived.Test.YtheiblbhlmaphaaPb2
import Derived.Test.YtheiblbhlmaphaaPb3
import Derived.Test.YtheiblbhlmaphaaPb1
import Derived.Test.YtheiblbhlmaphaaPa4
import Derived.Test.YtheiblbhlmaphaaPa8
import Derived.Deep.Cut
import Derived.Deep.SlicePairs
import Derived.ProofKit
namespace Go.Proofs.Ytheiblbhlmaphaa
set_option maxHeartbeats 8000000
set_option maxRecDepth 100000
open Go.RowKit
open Mth
theorem new_small (id par:Int) (kids:List Int) (h:kids.length≤90):SmallN (newN id par kids).1:=by
 unfold newN;split
 ·refine⟨rfl,rfl,rfl,fun x hx=>?_,by show kids.length≤100;omega,?_⟩
  ·obtain⟨y,_,rfl⟩:=List.mem_map.1 hx;rfl
  ·show(List.map _ (srt (nbrs (nnode id par kids [])))).length≤100
   rw [List.length_map,srt_length];unfold nbrs;rw [List.length_append];show kids.length+_≤100
   split<;>simp<;>omega
 ·exact⟨rfl,rfl,rfl,fun x hx=>by simp[zeroNd] at hx,by simp[zeroNd],by simp[zeroNd]⟩
theorem nodesT_small (l:List Int):(∀n∈nodesT l,SmallN n)∧(nodesT l).length≤30:=by
 cases h:treeB l
 ·rw [nodesT_no h];exact⟨fun n hn=>by simp at hn,by simp⟩
 ·rw [nodesT_yes h];have hl:=(TreeP.of h).le;refine⟨fun n hn=>?_,by simp[nodesTo];omega⟩;obtain⟨i,_,rfl⟩:=List.mem_map.1 hn;exact new_small _ _ _ (Nat.le_trans (kidsTo_len l _ l.length) (by omega))
theorem small_of {l:List Int} {L:List NdI} (h:L.map (fun x=>x.1)=nodesT l):(∀x∈L,SmallN x.1)∧L.length≤30:=by
 have hs:=nodesT_small l;rw [←h] at hs;exact⟨fun x hx=>hs.1 x.1 (List.mem_map_of_mem hx),by simpa using hs.2⟩
theorem blk_W {w:World} {g:Nat} {l:List Int} (h:intBlk w g l):GR.W encNum 1 w (some ⟨g,0,none⟩) g l:=fun i hi=>⟨rfl,GR.Blk.lt h,fun j hj=>⟨GR.Blk.cell h encNum_length i hi j hj,GR.Blk.free h _⟩⟩
theorem markTree (g:Nat) (l:List Int) (w:World) (hl:l.length≤1048600) (ha:GR.W encNum 1 w (some ⟨g,0,none⟩) g l):
 Calls Try.prog 10 #[trv (some ⟨g,0,none⟩) l l.length,.int .i64 1] w fun e w'=>e= .returned (.int .i64 (1+(l.length:Int)))∧KeepsL (fp g l) w w':=by
 have hb:=below_one' w (.cells #[.slice (some ⟨g,0,none⟩) l.length l.length] 28);have t0:=(one_at (heap_alloc_new w (.cells #[.slice (some ⟨g,0,none⟩) l.length l.length] 28))).1;have HM:=hide (markIntZ (some ⟨g,0,none⟩) g l.length 1 1 l (w.alloc (.cells #[.slice (some ⟨g,0,none⟩) l.length l.length] 28)) rfl (by omega) (by omega) hl (ha.below hb));have HK:=hide (KeepsL.of_below (F:=fp g l) hb);clear ha hb;go_enter Try.func10,Try.ntmps10
 go_wp2_with fail;refine HM.mono ?_;rintro e w1 ⟨rfl,_,hk⟩;have HK1:=hide (HK.trans hk);clear hk;go_wp2_with fail;go_ret;exact⟨rfl,HK1⟩
theorem fnExactTreeNodes_walk (a:Option Addr) (cap:Nat) (l:List Int) (hm:l.length≤maxLen) (w:World) (ha:IntsAt w a l):
 Calls Try.prog 3 #[trv a l cap] w fun e w'=>e= .returned (.bool true)∧Below w.heap.size w w':=by
 have HSZ:=hide (fun W=>szTree a cap l 1048576 W (by omega) (by omega) hm);by_cases hl:l.length≤1048576
 case neg=>
  have hc:¬(l.length:Int)≤1048576:=by omega
  rw [if_neg hc] at HSZ;clear ha;go_enter Try.func3,Try.ntmps3
  go_wp2_with (go_at_call 4;refine(HSZ _).mono ?_;rintro e w1 ⟨rfl,hb1⟩)
  go_ret;exact⟨rfl,(below_one' w _).trans (hb1.mono (by simp))⟩
 have hc:(l.length:Int)≤1048576:=by omega
 rw [if_pos hc] at HSZ;have hn:decide ((1048576:Int) - l.length < 0)=false:=decide_eq_false (by omega);have HTO:=hide (fun W (hb:Below w.heap.size w W)=>toTree a cap l W hl (GR.At.below ha hb));have HSP:=hide (fun g W (h:intBlk W g l)=>specTreeNodes (some ⟨g,0,none⟩) l.length l W (by omega) (GR.Blk.at h encNum_length));have HIM:=hide (fun g W (h:intBlk W g l)=>implTreeNodes (some ⟨g,0,none⟩) l.length l W (by omega) (GR.Blk.at h encNum_length));have HSM:=hide (fun(L:List NdI) (h:L.map (fun x=>x.1)=nodesT l)=>small_of h);unfold GivesNL at HSP HIM;clear ha;generalize nodesT l=NS at *;go_enter Try.func3,Try.ntmps3
 go_wp2_with fail;generalize hW:w.alloc (.cells #[.slice a l.length cap] 24)=W at *;have hB0:Below w.heap.size w W:=by rw [←hW];exact below_one' w _
 have hT0:W.heap[w.heap.size]?=some (.cells #[.slice a l.length cap] 24 (0,0)):=by rw [←hW];exact heap_alloc_new w _
 clear hW;refine(HSZ _).mono ?_;rintro e w1 ⟨rfl,hb1⟩;have HT1:=hide (tr_step hT0 hb1);have HB1:=hide (hB0.trans (hb1.mono hB0.size));clear hT0 hB0 hb1;obtain⟨t1,_⟩:=one_at HT1;go_wp2_with fail;refine(HTO _ HB1).mono ?_;rintro e w2 ⟨g2,rfl,hg2,hk2,hb2⟩;have HK2:=hide hk2;have HT2:=hide (tr_step HT1 hb2);have HB2:=hide (HB1.trans (hb2.mono HB1.size));clear t1 hk2 hb2 hg2;go_wp2_with fail;refine(HSP _ _ HK2).mono ?_;rintro e w3 ⟨v3,L3,rfl,hm3,hnl3,hb3⟩;have HT3:=hide (tr_step HT2 hb3);have HB3:=hide (HB2.trans (hb3.mono HB2.size));obtain⟨a3,c3,g3,rfl,hR3,hr3⟩:=hnl3.nr;have h23:w.heap.size < w2.heap.size:=obj_lt HT2;have hs23:=hb3.size;have HR3:=hide hR3;have HM3:=hide hm3;have HX3:=hide hr3;have hl3:L3.length=NS.length:=by rw [←hm3];simp
 clear hb3 HK2 hnl3 hR3 hm3 hr3 HSP;obtain⟨t3,_⟩:=one_at HT3;go_wp2_with fail;refine(HTO _ HB3).mono ?_;rintro e w4 ⟨g4,rfl,hg4,hk4,hb4⟩;have HK4:=hide hk4;have HT4:=hide (tr_step HT3 hb4);have HB4:=hide (HB3.trans (hb4.mono HB3.size));have HR4:=hide (HR3.below hb4);have hg4l:=GR.Blk.lt hk4;have hs34:=hb4.size;clear t3 hk4 hb4 HR3;go_upto_region 7 with fail;refine wp_at (fun W4 hW4=>?_);have hbw:Below w4.heap.size w4 W4:=by rw [hW4];exact below_one' w4 _
 have hX4:W4.heap[w4.heap.size]?=some (.cells #[.slice (some ⟨g4,0,none⟩) l.length l.length] 28 (0,0)):=by rw [hW4];exact heap_alloc_new _ _
 have hs4:W4.heap.size=w4.heap.size+1:=by rw [hW4];simp
 clear hW4;have HX4:=hide hX4;have HK5:=hide (intBlk.step HK4 hbw);have HT5:=hide (tr_step HT4 hbw);have HB5:=hide (HB4.trans (hbw.mono HB4.size));have HR5:=hide (HR4.below hbw);clear hX4 hbw HK4 HR4;obtain⟨x4,_⟩:=one_at HX4;go_wp2_with fail;refine(HIM _ _ HK5).mono ?_;rintro e w6 ⟨v6,L6,rfl,hm6,hnl6,hb6⟩;obtain⟨a6,c6,g6,rfl,hR6,hr6⟩:=hnl6.nr;have HX6:=hide (tr_step HX4 hb6);have HK6:=hide (intBlk.step HK5 hb6);have HT6:=hide (tr_step HT5 hb6);have HB6:=hide (HB5.trans (hb6.mono HB5.size));have HP6:=hide (HR5.below hb6);have HR6:=hide hR6;have HX6r:=hide hr6;have HM6:=hide hm6;obtain⟨hsm6,hlen6⟩:=unhide HSM L6 hm6;have HSM6:=hide hsm6;have hl6:L6.length=NS.length:=by rw [←hm6];simp
 have hs46:=hb6.size;have HE36:=hide (show L3.map (fun x=>x.1)=L6.map (fun x=>x.1) by rw [unhide HM3,hm6]);clear hb6 x4 hnl6 hR6 hr6 hm6 hsm6 HR5 HK5;have HEQ:=hide (fun W (h:NR W a6 g6 L6) (h3:NR W a3 g3 L3)=>eqNodeS a6 a3 g6 g3 c6 c3 NS.length L6 L3 W hl6.symm (by omega) (fun x hx=>(HSM6 x hx).sz.mono (by omega)) HE36 h h3);go_wp2_with fail;refine(HEQ _ HR6 HP6).mono ?_;rintro e w7 ⟨rfl,hb7⟩;have HX7:=hide (tr_step HX6 hb7);have HK7:=hide (intBlk.step HK6 hb7);have HT7:=hide (tr_step HT6 hb7);have HB7:=hide (HB6.trans (hb7.mono HB6.size));have HP7:=hide (HP6.below hb7);have HR7:=hide (HR6.below hb7);have hs67:=hb7.size;clear hb7 HX6 HK6 HT6 HP6 HR6;obtain⟨x6,_⟩:=one_at HX7;obtain⟨t6,_⟩:=one_at HT7;have HTN6:=hide (fun x (hx:Ge w7 x)=>HTO x (Ge.trans HB7 hx));have HK6':=unhide HK7;clear HX4 HB1 HB2 HB3 HB4 HB5 HT1 HT2 HT3 HT4 HT5 HB6;go_upto_region 10 with fail;go_cut [31] (fun v wx=>v= .bool false∧Below w7.heap.size w7 wx)
 case first=>
  have k0:=cell_regrown x6;have m0:=cell_regrown t6;refine wp_region_mix (by kernel_rfl) ?_;show wpMix _ _ _ _ 5 (Array.replicate 5 false) _ _
  refine tk [0,1] ?_;iterate 2 (refine tk0 (fun K hK=>?_);go_simp;refine hK _ ?_;clear hK K)
  refine tkN ?_;clear k0 m0 x6 t6;refine wpMix_one 2 rfl (by kernel_rfl) (by rfl) (fun x hx=>?_);go_simp;refine(HTN6 x hx).mono ?_;rintro e y ⟨g7,rfl,_,hk7,hby⟩;refine⟨hby,?_⟩;have HEE:=hide (fun z (hz:Ge y z)=>eqTree _ _ l.length l.length l z (by omega) (GR.At.below (GR.Blk.at (intBlk.step HK6' (Ge.trans hx hby)) encNum_length) hz) (GR.At.below (GR.Blk.at hk7 encNum_length) hz));have HXY:=hide (Ge.trans hx hby);clear hk7 hx hby;refine wpMix_one 3 rfl (by kernel_rfl) (by rfl) (fun x2 hx2=>?_);go_simp;refine(HEE x2 hx2).mono ?_;rintro e y2 ⟨rfl,hby2⟩;refine⟨hby2,?_⟩;have HXZ:=hide (Ge.trans (Ge.trans HXY hx2) hby2);clear hx2 hby2;refine tk [4] ?_;(refine tk0 (fun K hK=>?_);go_simp;refine hK _ ?_;clear hK K)
  refine tkN ?_;refine wpMix_done (by kernel_rfl) (fun z0 hz0=>?_);have hz:=Ge.trans HXZ hz0;go_wp2_with fail;go_meet
  case rel=>exact⟨rfl,hz⟩
 case rest=>
  obtain⟨rfl,hbz⟩:=hcut;obtain⟨w8,hw8⟩:∃x,x=wc:=⟨_,rfl⟩;subst hw8;have HX8:=hide (tr_step HX7 hbz);have HK8:=hide (blk_W (intBlk.step HK7 hbz));have HT8:=hide (tr_step HT7 hbz);have HB8:=hide (HB7.trans (hbz.mono HB7.size));have HP8:=hide (HP7.below hbz);have HR8:=hide (HR7.below hbz);have hs78:=hbz.size;clear hbz HX7 HK7 HT7 HB7 HP7 HR7 x6 t6 HTN6 HK6';obtain⟨x8,_⟩:=one_at HX8;go_wp2_with fail;refine(markTree g4 l w8 (by omega) HK8).mono ?_;rintro e w9 ⟨rfl,hk9⟩;have hq9:∀x∈fp g4 l,x=g4:=fun x hx=>(of_fp hx).1
  have HT9:=hide (hk9.obj HT8 (fun hx=>by have:=hq9 _ hx;omega));have HB9:=hide (HB8.trans (hk9.below (B:=w.heap.size) (fun x hx=>by have:=hq9 x hx;omega) (by have:=HB8.size;omega)));have HP9:=hide (HP8.keeps hk9 (fun x hx hm=>by have h1:=hq9 x hm;have h2:=unhide HX3 x hx;omega));have HR9:=hide (HR8.keeps hk9 (fun x hx hm=>by have h1:=hq9 x hm;have h2:=unhide HX6r x hx;omega));have hs89:=hk9.size;clear hk9 x8 HX8 HK8 HT8 HB8 HP8 HR8 hq9;have hneg:decide ((1:Int)+(l.length:Int) < 0)=false:=decide_eq_false (by omega);go_wp2_with fail;refine(HEQ _ HR9 HP9).mono ?_;rintro e w10 ⟨rfl,hb10⟩;have HT10:=hide (tr_step HT9 hb10);have HB10:=hide (HB9.trans (hb10.mono HB9.size));have HP10:=hide (HP9.below hb10);have HR10:=hide (HR9.below hb10);have hs910:=hb10.size;clear hb10 HT9 HB9 HP9 HR9;have HMK:=hide (fun W (h:NR W a6 g6 L6)=>markNodeS a6 g6 c6 1 L6 W (by omega) (by omega) (by omega) HSM6 h);rw [hl6] at HMK;have HHD:=hide (fun W (h:NR W a6 g6 (mNds 1 L6))=>heldNodeS a6 g6 c6 NS.length 1 L6 W hl6.symm (by omega) (by omega) (by omega) HSM6 h);have hel:=eNds_le 1 L6 HSM6;generalize eNds 1 L6=EN at *;generalize hMN:mNds 1 L6=MN at *;have hfm:fp g6 MN++fpN MN=fp g6 L6++fpN L6:=by rw [←hMN,←mNk_all];exact mNk_fp HSM6 (Nat.le_refl _)
  clear hMN;have hen:decide ((EN:Int) < 0)=false:=decide_eq_false (by omega);have hee:((EN:Int) != (EN:Int))=false:=by simp
  go_wp2_with fail;refine(HMK _ HR10).mono ?_;rintro e w11 ⟨rfl,hR11,hk11⟩;have hX:∀x∈fp g6 L6++fpN L6,W4.heap.size≤x∧x < w6.heap.size:=unhide HX6r;have HR11:=hide hR11;have HT11:=hide (hk11.obj HT10 (fun hx=>by have:=hX _ hx;omega));have HB11:=hide (HB10.trans (hk11.below (B:=w.heap.size) (fun x hx=>by have:=hX x hx;omega) (by have:=HB10.size;omega)));have HP11:=hide (HP10.keeps hk11 (fun x hx hm=>by have h1:=hX x hm;have h2:=unhide HX3 x hx;omega));clear hR11 hk11 HT10 HB10 HP10 HR10 hX;go_wp2_with fail;refine(HHD _ HR11).mono ?_;rintro e w12 ⟨rfl,hb12⟩;have HT12:=hide (tr_step HT11 hb12);have HB12:=hide (HB11.trans (hb12.mono HB11.size));have HP12:=hide (HP11.below hb12);have HR12:=hide (HR11.below hb12);clear hb12 HT11 HB11 HP11 HR11;obtain⟨t12,_⟩:=one_at HT12;go_wp2_with fail;refine(HTO _ HB12).mono ?_;rintro e w13 ⟨g13,rfl,_,hk13,hb13⟩;have HB13:=hide (HB12.trans (hb13.mono HB12.size));have HP13:=hide (HP12.below hb13);have HR13:=hide (HR12.below hb13);have HK13:=hide hk13;clear hb13 hk13 HB12 HP12 HR12 t12 HT12;go_wp2_with fail;refine(HIM _ _ HK13).mono ?_;rintro e w14 ⟨v14,L14,rfl,hm14,hnl14,hb14⟩;obtain⟨a14,c14,g14,rfl,hR14,_⟩:=hnl14.nr;obtain⟨hsm14,hlen14⟩:=unhide HSM L14 hm14;have hl14:L14.length=NS.length:=by rw [←hm14];simp
  have HEQ2:=hide (fun W (h:NR W a14 g14 L14) (h3:NR W a3 g3 L3)=>eqNodeS a14 a3 g14 g3 c14 c3 NS.length L14 L3 W hl14.symm (by omega) (fun x hx=>(hsm14 x hx).sz.mono (by omega)) (by rw [unhide HM3,hm14]) h h3);have HB14:=hide (HB13.trans (hb14.mono HB13.size));have HP14:=hide (HP13.below hb14);have HR14:=hide (HR13.below hb14);have HQ14:=hide hR14;clear hb14 hnl14 hR14 hm14 hsm14 HB13 HP13 HR13 HK13;go_wp2_with fail;refine(HEQ2 _ HQ14 HP14).mono ?_;rintro e w15 ⟨rfl,hb15⟩;have HB15:=hide (HB14.trans (hb15.mono HB14.size));have HR15:=hide (HR14.below hb15);clear hb15 HB14 HP14 HR14 HQ14;go_wp2_with fail;refine(HHD _ HR15).mono ?_;rintro e w16 ⟨rfl,hb16⟩;have HB16:=hide (HB15.trans (hb16.mono HB15.size));clear hb16;go_wp2_with fail;go_ret;exact⟨rfl,HB16⟩
open Go.WideShapes
open Go.ChangeShapes
theorem ndIntCells:Try.prog.cellsOf 3=1:=by kernel_rfl
theorem ndStrCells:Try.prog.cellsOf 9=1:=by kernel_rfl
section
variable {H:Type} {enc:TypeId×Value→H} {W:World}
theorem open_rows {α:Type} {en:α→List Value} {sz:Nat} {ok:α→Prop} {t e:TypeId} {fuel:Nat} {cs:List Value} {x:DataW H×List MemPlace} (ht:Try.prog.underlying t=some (.slice e)) (hc:Try.prog.cellsOf e=sz) (hsz:0 < sz) (hs:∀y,(en y).length=sz)
 (hel:∀fuel cs' x,cs'.length=sz→DataW.trod enc Try.prog W 0 (fun _=>true) true fuel e cs'=some x→∃y,ok y∧cs'=en y)
 (h:DataW.trod enc Try.prog W 0 (fun _=>true) true fuel t cs=some x):
 ∃(a:Option Addr) (cap:Nat) (l:List α),cs=[.slice a l.length cap]∧l.length≤maxLen∧(∀y∈l,ok y)∧GR.At en sz W a l:=by
 rcases Deep.open_slice ht h with⟨hcs,_⟩|⟨x,len,cap,m,n,D,Pl,hcs,_,hlc,hcm,hm,_,hcell⟩
 ·exact⟨none,0,[],hcs,by simp,fun p hp=>by simp at hp,fun i hi=>by simp at hi⟩
 ·have hm':m=cap:=by rw [hm];simp
  have each:∀i,i < len→∃q:α,ok q∧∀j,j < sz→W.cell? (x.add (i*sz+j))=(en q)[j]?:=by
   intro i hi;obtain⟨cs',h1,h2⟩:=hcell i (by omega);rw [hc] at h1;obtain⟨_,hlen,hcc⟩:=World.cells?_some h1;obtain⟨y,hy,rfl⟩:=hel _ _ _ hlen h2;refine⟨y,hy,fun j hj=>?_⟩;have e:=hcc j (by omega);rw [Deep.add_add] at e;exact e
  have hd:Nonempty α∨len=0:=by
   by_cases h0:len=0
   ·exact .inr h0
   ·obtain⟨q,_⟩:=each 0 (by omega);exact .inl ⟨q⟩
  rcases hd with d|d
  ·obtain⟨q,hq⟩:∃q:Nat→α,∀i,i < len→ok (q i)∧∀j,j < sz→W.cell? (x.add (i*sz+j))=(en (q i))[j]?:=by
    exact⟨fun i=>if hi:i < len then(each i hi).choose else Classical.choice d,fun i hi=>by simp only[dif_pos hi];exact(each i hi).choose_spec⟩
   refine⟨some x,cap,(List.range len).map q,by rw [hcs];simp,by simp;omega,fun p hp=>?_,fun i hi=>?_⟩
   ·obtain⟨i,hi,rfl⟩:=List.mem_map.1 hp;exact(hq i (List.mem_range.1 hi)).1
   ·have hi':i < len:=by simpa using hi
    obtain⟨b,off,spot⟩:=x;have h0:=(hq 0 (by omega)).2 0 hsz;have hne:∃v,(en (q 0))[0]?=some v:=⟨_,List.getElem?_eq_getElem (by rw [hs];exact hsz)⟩;obtain⟨v0,hv0⟩:=hne;rw [hv0] at h0;have hspot:spot=none:=by simpa [Addr.add] using World.cell?_spot h0
    subst hspot;have h1:=(hq i hi').2;have ea:∀k:Nat,(⟨b,off,none⟩:Addr).add k=⟨b,off+k,none⟩:=fun k=>by unfold Addr.add;split<;>simp_all
    have h3:=h1 0 hsz;rw [ea,List.getElem?_eq_getElem (by rw [hs];exact hsz)] at h3;refine⟨b,off,rfl,World.block_lt_of_cell? _ _ h3,fun j hj=>?_⟩;have h2:=h1 j hj;rw [ea] at h2;simpa using h2
  ·subst d;exact⟨some x,cap,[],by rw [hcs];simp,by simp,fun p hp=>by simp at hp,fun i hi=>by simp at hi⟩
theorem open_ints' {fuel:Nat} {cs:List Value} {x:DataW H×List MemPlace} (h:DataW.trod enc Try.prog W 0 (fun _=>true) true fuel 22 cs=some x):
 ∃(a:Option Addr) (cap:Nat) (l:List Int),cs=[.slice a l.length cap]∧l.length≤maxLen∧IntsAt W a l:=by
 obtain⟨a,cap,l,h1,h2,_,h4⟩:=open_rows (en:=encNum) (sz:=1) (ok:=fun _=>True) Try.underlying22 ndIntCells (by omega) encNum_length (fun fuel cs' x _ h=>by
  obtain⟨n,q,_⟩:=DataW.trod_int Try.underlying3 h
  exact⟨n,trivial,q⟩) h
 exact⟨a,cap,l,h1,h2,h4⟩
theorem ndSlcCells:Try.prog.cellsOf 22=1:=by kernel_rfl
theorem array_nine {α:Type} {cs:Array α} (h:cs.size=9):∃a b c d e f g i j,cs=#[a,b,c,d,e,f,g,i,j]:=by
 obtain⟨l⟩:=cs;match l,h with
 |[a,b,c,d,e,f,g,i,j],_=>exact⟨a,b,c,d,e,f,g,i,j,rfl⟩
end
theorem open_intsArg {H:Type} {enc:TypeId×Value→H} {W:World} {r:Reach} {base:Nat} {v:Value} {d:DataW H} {p:List MemPlace} (hv:Value.okWide Try.prog W r base 22 v) (h:DataW.Trod enc Try.prog W 0 (fun _=>true) true 22 v d p):
 ∃(a:Option Addr) (cap:Nat) (l:List Int),v= .slice a l.length cap∧l.length≤maxLen∧IntsAt W a l:=by
 obtain⟨a,len,cap,rfl⟩:=okWide_slice Try.underlying22 hv;obtain⟨fuel,hf⟩:=h;obtain⟨a',cap',l,h1,h2,h3⟩:=open_ints' hf;simp[Value.cells] at h1;obtain⟨rfl,rfl,rfl⟩:=h1;exact⟨_,_,l,rfl,h2,h3⟩
theorem array_one {α:Type} {cs:Array α} (h:cs.size=1):∃a,cs=#[a]:=by
 obtain⟨l⟩:=cs;match l,h with
 |[a],_=>exact⟨a,rfl⟩
theorem trCells:Try.prog.cellsOf 24=1:=by kernel_rfl
theorem trSlcCells:Try.prog.cellsOf 22=1:=by kernel_rfl
theorem open_tree {H:Type} {enc:TypeId×Value→H} {W:World} {r:Reach} {base:Nat} {v:Value} {d:DataW H} {p:List MemPlace} (hv:Value.okWide Try.prog W r base 24 v) (h:DataW.Trod enc Try.prog W 0 (fun _=>true) true 24 v d p):
 ∃(a:Option Addr) (cap:Nat) (l:List Int),v=trv a l cap∧l.length≤maxLen∧IntsAt W a l:=by
 simp only[Value.okWide,Try.underlying24] at hv;obtain⟨cs,rfl,hsz,ts,hts,_,hall⟩:=hv;obtain⟨fuel,hf⟩:=h;obtain⟨a0,rfl⟩:=array_one (hsz.trans trCells);obtain⟨xs,k,_,_,_,hxl,hfl⟩:=DataW.trod_struct Try.underlying24 hf;match xs,hxl with
 |[y0],_=>
  have g0:=hfl 0 _ rfl
  simp[trSlcCells,Value.cells] at g0
  obtain⟨b2,c2,l2,q2,z2,t2⟩:=open_ints' g0
  simp at q2
  subst q2
  exact⟨b2,c2,l2,rfl,z2,t2⟩
end Go.Proofs.Ytheiblbhlmaphaa
