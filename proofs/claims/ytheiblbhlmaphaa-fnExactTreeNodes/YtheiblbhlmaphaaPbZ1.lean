/-
  Parts of proofs that stand more than once, each said once.
-/
import Derived.Test.YtheiblbhlmaphaaRows
import Derived.OrdersHeld
import Derived.Lib.QuietBelow
import Derived.Deep.Cut
import Derived.Deep.SlicePairs
import Derived.ProofKit
import Derived.WalkKit
import Derived.OpenShut
import Derived.ShutString
import Derived.ChangeOld
import Derived.Below
import Derived.WalkSpells
import Derived.OneCell
import Derived.Laws.MakeOwn
import Derived.Deep.RegionHeld
import Derived.Deep.QuietTactic
import Derived.Deep.RegionWith
import Derived.BigQuiet
import Derived.Laws.Cover1
import Derived.Laws.IdiomStrings
import Derived.Laws.BytesString
import Derived.Laws.AppendOwnNone
import Derived.Maps.AppendAt
import Derived.Laws.OwnMore
import Derived.Sort.Walk0
import Derived.Lib.Strings
import Derived.Lib.BufferWrite
import Derived.Lib.UnsafeStr
import Derived.Laws.CopyOwn
import Derived.Deep.DeepCutAuto
import Derived.Deep.CutBlock
import Derived.Lib.ItoaNum
import Derived.Lib.ItoaLen
import Derived.Laws.DeepStrings4
import Derived.Deep.Draws
import Derived.Sort.OwnSortedInts
import Derived.Deep.AppendLies
import Derived.Lib.AppendZeros
namespace Go.Proofs.Ytheiblbhlmaphaa
set_option maxRecDepth 100000
variable{P:Prop}
theorem Zb0(h:P:=by
 refine wpMixB_one 14 rfl (by kernel_rfl) (by rfl) (by decide) (fun xf hxf=>?_);have HGg:=hide (Ge.trans HGf hxf);have HWg:=hide (HWf.below hxf);have HQg:=hide (obj_step HQf hxf);clear hxf;obtain⟨d0,d1,d2,d3,d4,d5,d6,d7,d8⟩:=nine HQg;have f0:=obj_free HQg 0;have f1:=obj_free HQg 1;have f2:=obj_free HQg 2;have f3:=obj_free HQg 3;have f4:=obj_free HQg 4;have f5:=obj_free HQg 5;have f6:=obj_free HQg 6;have f7:=obj_free HQg 7;have f8:=obj_free HQg 8;have hrl:=obj_lt HQg;go_simp;have hkq:KeepsL [qf] xf (GR.setW xf (qf) 0 [.int .i64 N1.id,.int .i64 N1.par,.slice A3.k N1.kids.length A3.ck,.int .i64 N1.next,.slice A3.p N1.pu.length A3.cp,.slice A3.o N1.out.length A3.co,.slice A3.s N1.seen.length A3.cs,.int .i64 N1.old,.slice A3.r N1.reqs.length A3.cr]):=setW_keeps [.int .i64 N1.id,.int .i64 N1.par,.slice A3.k N1.kids.length A3.ck,.int .i64 N1.next,.slice A3.p N1.pu.length A3.cp,.slice A3.o N1.out.length A3.co,.slice A3.s N1.seen.length A3.cs,.int .i64 N1.old,.slice A3.r N1.reqs.length A3.cr] xf 0;refine⟨hkq.below (fun x hx=>by have:x=qf:=(by simpa using hx);omega) HGg.size,?_⟩;have HBQ:=hide (GR.setW_blk [.int .i64 N1.id,.int .i64 N1.par,.slice A3.k N1.kids.length A3.ck,.int .i64 N1.next,.slice A3.p N1.pu.length A3.cp,.slice A3.o N1.out.length A3.co,.slice A3.s N1.seen.length A3.cs,.int .i64 N1.old,.slice A3.r N1.reqs.length A3.cr] (o:=0) (xs:=[.int .i64 0,.int .i64 0,.slice none 0 0,.int .i64 0,.slice none 0 0,.slice none 0 0,.slice none 0 0,.int .i64 0,.slice none 0 0]) HQg)
 have hda:∀x∈G3.all N1,x∉[qf]:=fun x hx hm=>by
  have:x=qf:=(by simpa using hm)
  have h1:=HSEP.rng x hx
  omega
 have HWS:=hide (HWg.keeps hkq hda);have HBV:=hide (Below.trans HGg (hkq.below (B:=w1.heap.size) (fun x hx=>by have:x=qf:=(by simpa using hx);omega) HGg.size));have HDA:=hide hda;clear hkq d0 d1 d2 d3 d4 d5 d6 d7 d8 f0 f1 f2 f3 f4 f5 f6 f7 f8 hrl hda;refine wpMixB_leave (by kernel_rfl) (fun z hz=>?_);have HBQz:=hide (obj_step HBQ hz);have HWz:=hide (HWS.below hz);have HBVz:=hide (HBV.trans (hz.mono HBV.size));clear hz HBQ HWS HBV;refine wpAny_one 15 rfl (by kernel_rfl) (by rfl) ?_;go_simp;refine wpAny_done (by kernel_rfl) ?_;go_simp;go_wp2_with fail;go_meet
 case rel=>
  refine⟨qf,A3,G3,rfl,hqV,HBQz,HWz,HSEP.nodup,fun x hx=>⟨by have h1:=HSEP.rng x hx;omega,by simpa using unhide HDA x hx,?_⟩,HBVz⟩;exact(NodeW.lt HWz x hx)):P:=h
theorem Zb13(h:P:=by
 intro k ok hk hki hun hno;refine hfree k ok hk hki ?_ hno;by_cases hjk:j=k
 ·subst hjk;exact hjun
 ·rw [getD_set_ne true hjk] at hun;exact hun):P:=h
theorem Zb1(h:P:=by
 open Sb2 in exact Yb0):P:=h
theorem Zb2(h:P:=by
 cases fuel with
 |zero=>exact⟨h.1,fun y hy=>h.2 y (Ge.trans hx hy)⟩
 |succ fuel=>exact fun y hy=>h y (Ge.trans hx hy)):P:=h
theorem Zb3(h:P:=by
 intro x hx;rw [hr];refine⟨fun h=>(by cases h),fun j hj=>?_⟩;obtain rfl:j=i:=by simpa using hj
 refine⟨fun e=>absurd e hiE,fun _=>?_⟩;unfold wpOp;simp only[hi];rw [if_pos hw];exact .inl (h x hx)):P:=h
theorem Zb4(h:P:=by
 have:=ready_mono hj hji;rw [H.1] at this;cases this):P:=h
theorem Zb5(h:P:=by
 rw [hr];refine⟨fun h=>(by cases h),fun j hj=>?_⟩;obtain rfl:j=i:=by simpa using hj
 unfold wpOp;simp only[hi];rw [if_pos hw];exact .inl (h x hx)):P:=h
theorem Zb6(h:P:=by
 unfold wpOp;simp only[hi];rw [if_pos hwi];exact .inl (h1 x hx)):P:=h
theorem Zb7(h:P:=by
 unfold wpOp;simp only[hj];rw [if_pos hwj];exact .inl (h2 x hx)):P:=h
theorem Zb8(h:P:=by
 subst hji;exact(hy.toG hb).wpOp hi hx fun y hy'=>⟨hy'.mono (Nat.le_trans hb hx.size),wpMixB_grow (Ge.trans hx hy') H⟩):P:=h
theorem Zb9(h:P:=by
 obtain⟨p,rfl⟩:=regrown_of_below hx;exact hv p):P:=h
theorem Zb10(h:P:=by
 subst hji;exact hy.wpOp hi hx fun y hy'=>⟨hy',wpMixE_grow (Ge.trans hx hy') H⟩):P:=h
theorem Zb11(h:P:=by
 subst hji;exact hy.wpOp hi hx fun y hy'=>⟨hy',wpMixF_grow (Ge.trans hx hy') H⟩):P:=h
theorem Zb12(h:P:=by
 subst hji;exact hy.wpOp hi hx fun y hy'=>⟨hy',wpMix_grow (Ge.trans hx hy') H⟩):P:=h
theorem Yb0(h:P:=by
 obtain⟨hjun,oj,hoj,hall⟩:=mem_ready.1 hj
 have hnot:∀e∈oj.after,Region.binds md e=true→e.on≠i:=fun e he hb heq=>by
  have h2:=hall e he hb
  have h0:=(mem_ready.1 hr).1
  rw [heq] at h2
  rcases Nat.lt_or_ge i listed.size with h'|h'
  ·simp[h'] at h0 h2;rw [h0] at h2;cases h2
  ·simp[Array.getElem?_eq_none h'] at h2
 have h2:=wpOp_past hoj (hfree j oj hoj hji hjun hnot) (fun cs b=>hsel i oi cs b hi) (fun cs b=>hsel j oj cs b hoj) hQ h1;refine wpOp_mono (fun a' y hy2=>?_) h2;obtain⟨⟨hs1,hs2⟩,hg,hm⟩:=hy2;exact Kb0):P:=h
theorem Sb0.Kb0(h:P:=by
 refine⟨hg,ih (listed.setIfInBounds j true) a' y ?_ (ready_mono hr (Ne.symm hji)) ?_ ?_⟩
 ·exact Zb13
 ·unfold YieldsG at *;rw [hs1,hs2];exact hy.imp (fun⟨p,q⟩=>⟨p,fun z hz=>q z (Ge.trans (Ge.trans hx hg) hz)⟩) id
 ·rw [Array.setIfInBounds_comm _ _ hji];exact hm):P:=h
theorem Sb1.Kb0(h:P:=by
 have hwy:Below b w y:=(hx.mono hb).trans hg;refine⟨hg,ih (listed.setIfInBounds j true) a' y (Nat.le_trans hb hwy.size) (closed_set hcl hj) ?_ (ready_mono hr (Ne.symm hji)) ?_ ?_⟩
 ·exact Zb13
 ·unfold YieldsB at *;rw [hs1,hs2];exact hy.imp (fun⟨p,q⟩=>⟨p,fun z hz=>q z (hwy.trans hz)⟩) id
 ·rw [Array.setIfInBounds_comm _ _ hji];exact hm):P:=h
theorem Sb2.Kb0(h:P:=by
 refine⟨hg,ih (listed.setIfInBounds j true) a' y (closed_set hcl hj) ?_ (ready_mono hr (Ne.symm hji)) ?_ ?_⟩
 ·exact Zb13
 ·unfold YieldsG at *;rw [hs1,hs2];exact hy.imp (fun⟨p,q⟩=>⟨p,fun z hz=>q z (Ge.trans (Ge.trans hx hg) hz)⟩) id
 ·rw [Array.setIfInBounds_comm _ _ hji];exact hm):P:=h
theorem Yb1(h:P:=by
 have hbd:=eNds_le s (L.take k) (fun x hx=>HSM x (List.mem_of_mem_take hx));rw [←hm,List.length_take,Nat.min_eq_left (by omega)] at hbd;obtain⟨hb1,hb2⟩:=hbd;have hm0:0 < m:=by omega
 have hm1:(m:Int)≤92233720:=by omega
 exact Kb1):P:=h
theorem Sb3.Kb1(h:P:=by
 have hk':k < (mNk s L k).length:=by rw [mNk_length s L k hk];exact hlt
 have hat:=mNk_at s L k hlt;have HSET:=hide (mNk_set s L k hlt);have HE1:Hid (eNds s (L.take (k+1))=eNd m L[k].1):=by rw [List.take_succ_eq_append_getElem hlt,eNds_snoc,←hm];rfl
 rw [←hm] at HSET;have HSMK:=hide (HSM L[k] (List.getElem_mem hlt));have HNK:=hide (HR.each (mNk s L k)[k] (List.getElem_mem hk'));have HRND:=hide (fun(w':World) (x:NdI) h1 h2 h3 h4 h5=>NR.round (w':=w') HR k hk' x h1 h2 h3 h4 h5);have HND:=hide (List.nodup_append.1 HR.nd);have HGM:=hide (fp_mem (g:=g) (l:=mNk s L k) (by omega));have HFA:=hide (fpN_at hk');have hrow:=HR.row;have hrk:(rows9 (mNk s L k))[k]'(by rw [rows9_length];exact hk')=r9 (mNk s L k)[k]:=by simp[rows9]
 have hcg:fpN (mNk s L k)=fpN (mNk s L k):=rfl;have HNDA:=hide (fpN_nd HND.2.1 hk' hat);rw [hat] at HNK HRND HFA hrk;have HSMA:=hide HSM;clear hm hcg;generalize L[k]=x at *;obtain⟨⟨id,par,kids,next,pu,out,seen,old,reqs⟩,A,G⟩:=x;obtain⟨z1,z2,z3,z4,z5,z6⟩:=unhide HSMK;dsimp only at z1 z2 z3 z4 z5 z6;subst z1 z2 z3;dsimp only at HSET HE1 HNK HRND HFA HNDA hrk;have hga:∀x∈G.all ⟨id,par,kids,next,[],[],seen,old,[]⟩,x≠g:=fun x hx e=>HND.2.2 g HGM x (HFA x hx) e.symm
 have hgk:∀x∈fp G.k kids,x≠g:=fun x hx=>hga x (Blks.mem_all.2 (.inl hx))
 have hgs:∀x∈fp G.s seen++fpI G.i seen,x≠g:=fun x hx=>by
  rcases List.mem_append.1 hx with hx|hx
  ·exact hga x (Blks.mem_all.2 (.inr (.inr (.inr (.inl hx)))))
  ·exact hga x (Blks.mem_all.2 (.inr (.inr (.inr (.inr (.inl hx))))))
 obtain⟨hdk,hds⟩:=small_dis HNDA;have hFk:∀x∈fp G.k kids,x∈g::G.all ⟨id,par,kids,next,[],[],seen,old,[]⟩:=fun x hx=>List.mem_cons_of_mem _ (Blks.mem_all.2 (.inl hx))
 have hFs:∀x∈fp G.s seen++fpI G.i seen,x∈g::G.all ⟨id,par,kids,next,[],[],seen,old,[]⟩:=fun x hx=>by
  rcases List.mem_append.1 hx with hx|hx
  ·exact List.mem_cons_of_mem _ (Blks.mem_all.2 (.inr (.inr (.inr (.inl hx)))))
  ·exact List.mem_cons_of_mem _ (Blks.mem_all.2 (.inr (.inr (.inr (.inr (.inl hx))))))
 have hAll:=all_mNd (G:=G) (m:=m) HSMK;dsimp only at hdk hds;generalize G.all ⟨id,par,kids,next,[],[],seen,old,[]⟩=GA at *;have HGK:=hide hgk;have HGS:=hide hgs;have HDK:=hide hdk;have HDS:=hide hds;have HFK:=hide hFk;have HFS:=hide hFs;have HALL:=hide hAll;have HKD:=hide HNK.k;have HSE:=hide HNK.s;open Sb20 in exact Yb9):P:=h
theorem Sb4.Kb1(h:P:=by
 have hk':k < (mNds s L).length:=by rw [mNds_length];exact hlt
 have hat:=mNds_at s L k hlt;have HE1:Hid (eNds s (L.take (k+1))=eNd m L[k].1):=by rw [List.take_succ_eq_append_getElem hlt,eNds_snoc,←hm];rfl
 rw [←hm] at hat;have HSMK:=hide (HSM L[k] (List.getElem_mem hlt));have hR:=HA.below HBL;have HNK:=hide (hR.each (mNds s L)[k] (List.getElem_mem hk'));have hrow:=hR.row;have hrk:(rows9 (mNds s L))[k]'(by rw [rows9_length];exact hk')=r9 (mNds s L)[k]:=by simp[rows9]
 rw [hat] at HNK hrk;clear hm hR hat;generalize L[k]=x at *;obtain⟨⟨id,par,kids,next,pu,out,seen,old,reqs⟩,A,G⟩:=x;obtain⟨z1,z2,z3,z4,z5,z6⟩:=unhide HSMK;dsimp only at z1 z2 z3 z4 z5 z6;subst z1 z2 z3;open Sb19 in exact Yb9):P:=h
theorem Yb2(h:P:=by
 have HGy3:=hide (Ge.trans HGx3 hb3);have HQy3:=hide (obj_step HQx3 hb3);have HWy3:=hide hNW;have HSEP:=hide hsep;have hyd:y3.heap.size≤y3.heap.size:=Nat.le_refl _;clear hNW hsep hx3 hb3;have hwp:w1.heap.size≤y3.heap.size:=HGy3.size;open Sb18 in exact Yb8):P:=h
theorem Sb5.Kb2(h:P:=by
 generalize x1.heap.size=qf at *;exact Zb0):P:=h
theorem Sb6.Kb2(h:P:=by
 generalize x2.heap.size=qf at *;exact Zb0):P:=h
theorem Yb3(h:P:=by
 obtain⟨v',w2,hrun,hNL4,hg4⟩:=NL.more HNL1 HB1.size (by have h:=congrArg List.length HLM;simp[nodesTo] at h;omega) hbx hW hnd hrg;have HNL4:=hide hNL4;have HB4:=hide (GR.below_append (HB1.trans (hbx.mono HB1.size)) (Nat.le_trans HB1.size hbx.size) (HNL1.step hbx).own hg4);obtain⟨c0,c1,c2,c3,c4,c5,c6,c7,c8⟩:=nine hQ;exact Kb3):P:=h
theorem Sb7.Kb3(h:P:=by
 clear hNL4 hg4 hW hrg hnd hbx HNL1 HB1 HKD HNW y0 y1 hQ;go_wp2_with (at_builtin;refine wpList_append_eqN rfl _ _ 26 rfl _ _ rfl rfl _ _ hrun ?_)
 go_roundw
 case rel=>exact⟨k+1,L++[(N1,A3,G3)],by omega,by go_num,.inr HTB,by rw [List.map_append,unhide HLM,unhide HNX];rfl,HNL4,HB4⟩
 case measure=>simp[intOf];omega):P:=h
theorem Sb8.Kb3(h:P:=by
 clear hNL4 hg4 hW hrg hnd hbx HNL1 HB1 HKD HNW hQ hs3 hs4;go_wp2_with (at_builtin;refine wpList_append_eqN rfl _ _ 26 rfl _ _ rfl rfl _ _ hrun ?_)
 go_roundw
 case rel=>exact⟨k+1,L++[(N1,A3,G3)],by omega,by go_num,by rw [List.map_append,unhide HLM,unhide HNX];rfl,HNL4,HB4⟩
 case measure=>simp[intOf];omega):P:=h
theorem Yb4(h:P:=by
 have hke:k=L.length:=by omega
 subst hke;have hnlt:decide ((L.length:Int) < (L.length:Int))=false:=by simp
 have h:=unhide HM;rw [List.take_length] at h;have HME:=hide h;exact Kb4):P:=h
theorem Sb9.Kb4(h:P:=by
 have hS:=unhide HR;rw [mNk_all] at hS;have HS:=hide hS;clear hm h hS;go_wp2_with fail;go_ret;exact⟨ret_int (by rw [unhide HME]),HS,HK⟩):P:=h
theorem Sb10.Kb4(h:P:=by
 clear hm h;go_wp2_with fail;go_ret;exact⟨ret_int (by rw [unhide HME]),HBL⟩):P:=h
theorem Yb5(h:P:=by
 subst e1 e2;clear hPB HX HY;go_wp2_with fail;refine bodyPost_atN (fun W' hW'=>?_);exact Kb5):P:=h
theorem Sb11.Kb5(h:P:=by
 have hR:=nine_set (b0:= .int .i64 id) (b1:= .int .i64 par) (b2:=(.slice ka kids.length kc)) (b3:= .int .i64 1) (b4:= .slice none 0 0) (b5:= .slice none 0 0) (b6:= .slice va F.length vc) (b7:= .int .i64 0) (b8:= .slice none 0 0) HR5;have hK:=nine_keeps (w:=w5) (g:=w.heap.size) (b0:= .int .i64 id) (b1:= .int .i64 par) (b2:=(.slice ka kids.length kc)) (b3:= .int .i64 1) (b4:= .slice none 0 0) (b5:= .slice none 0 0) (b6:= .slice va F.length vc) (b7:= .int .i64 0) (b8:= .slice none 0 0);rw [←hW'] at hR hK;obtain⟨x0,x1,x2,x3,x4,x5,x6,x7,x8⟩:=nine hR;have hBW:=HB5.trans (hK.below (B:=w.heap.size) (fun x hx=>by have:=mem_one hx;omega) HB5.size);obtain⟨A9,G9,e9,hNW,hSP⟩:=NodeW.new (id:=id) (par:=par) HO5 (fun x hx=>by have:=unhide HKL x hx;omega) HN5.own (B2:=wc.heap.size) (by omega);have e9':=e9;unfold nnc at e9'
 have hN9:NodeW W' A9 G9 (nnode id par kids F):=hNW.keeps hK (fun x hx hx2=>by
  have h1:=hSP.rng x hx
  have h2:=mem_one hx2
  omega)
 refine bodyPost_ret (v:= .tuple #[ndv (nnode id par kids F) A9,.bool true]) (by rw [←e9];simp[results,Try.results15,go_sem,x0,x1,x2,x3,x4,x5,x6,x7,x8]) rfl ⟨_,rfl,G9,hN9,⟨hSP.nodup,fun x hx=>?_⟩,hBW⟩;have h1:=hSP.rng x hx;have h2:=hK.size;omega):P:=h
theorem Sb12.Kb5(h:P:=by
 have hR:=nine_set (b0:= .int .i64 0) (b1:= .int .i64 0) (b2:= .slice none 0 0) (b3:= .int .i64 0) (b4:= .slice none 0 0) (b5:= .slice none 0 0) (b6:= .slice none 0 0) (b7:= .int .i64 0) (b8:= .slice none 0 0) HR5;have hK:=nine_keeps (w:=w5) (g:=w.heap.size) (b0:= .int .i64 0) (b1:= .int .i64 0) (b2:= .slice none 0 0) (b3:= .int .i64 0) (b4:= .slice none 0 0) (b5:= .slice none 0 0) (b6:= .slice none 0 0) (b7:= .int .i64 0) (b8:= .slice none 0 0);rw [←hW'] at hR hK;obtain⟨x0,x1,x2,x3,x4,x5,x6,x7,x8⟩:=nine hR;refine bodyPost_ret (v:= .tuple #[ndv zeroNd ⟨none,none,none,none,none,0,0,0,0,0⟩,.bool false]) (by simp[results,Try.results15,go_sem,x0,x1,x2,x3,x4,x5,x6,x7,x8,zeroNd]) rfl ⟨_,rfl,⟨0,0,0,0,0,fun _=>0⟩,NodeW.zero.1,⟨(NodeW.zero (w:=W')).2.nodup,fun x hx=>absurd hx (by simp[Blks.all,zeroNd,fp,fpI])⟩,HB5.trans (hK.below (fun x hx=>by have:=mem_one hx;omega) HB5.size)⟩):P:=h
theorem Yb6(h:P:=by
 refine wpMixB_one 9 rfl (by kernel_rfl) (by rfl) (by decide) (fun x3 hx3=>?_);have HGx3:=hide (Ge.trans HGy2 hx3);have HKx3:=hide (GR.At.below HKy2 hx3);have HQx3:=hide (obj_step HQy2 hx3);go_simp;refine(HNW x3 kb kc hcap HKx3).mono ?_;rintro e y3 ⟨A3,rfl,G3,hNW,hsep,hb3⟩;refine⟨hb3.mono HGx3.size,?_⟩;have hxd:w1.heap.size≤x3.heap.size:=HGx3.size;exact Kb6):P:=h
theorem Sb13.Kb6(h:P:=by
 have hqd:x1.heap.size < x3.heap.size∨y3.heap.size≤x1.heap.size:= .inl (obj_lt HQx3);open Sb5 in exact Yb2):P:=h
theorem Sb14.Kb6(h:P:=by
 have hqd:x2.heap.size < x3.heap.size∨y3.heap.size≤x2.heap.size:= .inl (obj_lt HQx3);open Sb6 in exact Yb2):P:=h
theorem Yb7(h:P:=by
 have hno:∀(listed:Array Bool),ClosedL md ops listed→i∈Region.ready md ops listed→E∉Region.ready md ops listed:=fun listed hcl hr hEr=>by
  have h3:=anc_listed hcl hEr n i hE
  have h4:=(mem_ready.1 hr).1
  rcases Nat.lt_or_ge i listed.size with h'|h'
  ·simp[h'] at h3 h4;rw [h4] at h3;cases h3
  ·simp[Array.getElem?_eq_none h'] at h3
 intro fuel;exact Kb7):P:=h
theorem Sb15.Kb7(h:P:=by
 induction fuel with
 |zero=>
  intro listed a w hcl _ hr hy H
  refine fun x hx=>⟨fun h=>(by rw [h] at hr;cases hr),fun j hj=>⟨fun e=>absurd (e▸hj) (hno listed hcl hr),fun _=>?_⟩⟩
  by_cases hji:j=i
  ·exact Zb11
  ·exact Zb4
 |succ fuel ih=>
  intro listed a w hcl hfree hr hy H
  refine fun x hx=>⟨fun h=>(by rw [h] at hr;cases hr),fun j hj=>⟨fun e=>absurd (e▸hj) (hno listed hcl hr),fun hjE=>?_⟩⟩
  by_cases hji:j=i
  ·exact Zb11
  ·have h1:=((H x hx).2 j (ready_mono hj hji)).2 hjE;exact Zb1):P:=h
theorem Sb16.Kb7(h:P:=by
 induction fuel with
 |zero=>
  intro listed a w hb hcl _ hr hy H
  refine fun x hx=>⟨fun h=>(by rw [h] at hr;cases hr),fun j hj=>⟨fun e=>absurd (e▸hj) (hno listed hcl hr),fun _=>?_⟩⟩
  by_cases hji:j=i
  ·exact Zb8
  ·exact Zb4
 |succ fuel ih=>
  intro listed a w hb hcl hfree hr hy H
  refine fun x hx=>⟨fun h=>(by rw [h] at hr;cases hr),fun j hj=>⟨fun e=>absurd (e▸hj) (hno listed hcl hr),fun hjE=>?_⟩⟩
  by_cases hji:j=i
  ·exact Zb8
  ·have h1:=((H x hx).2 j (ready_mono hj hji)).2 hjE;open Sb1 in exact Yb0):P:=h
theorem Yb8(h:P:=by
 refine tk [10,11,12] ?_;iterate 3 (refine tkB hwp (fun K hK=>?_);go_simp;first|refine hK _ ?_|(apply Exists.intro;refine⟨fun _=>?_,hK _ ?_⟩;rfl);clear hK K)
 refine tkN ?_;clear hwp;exact Kb8):P:=h
theorem Sb17.Kb8(h:P:=by
 refine wpMixB_one 13 rfl (by kernel_rfl) (by rfl) (by decide) (fun x3 hx3=>?_);have HGx3:=hide (Ge.trans HGy2 hx3);have HWx3:=hide (HWy2.below hx3);go_simp;refine⟨(below_one x3 _).mono HGx3.size,?_⟩;have hqd:x3.heap.size < x2.heap.size∨y2.heap.size≤x3.heap.size:= .inr hx3.size;have hqV:w1.heap.size≤x3.heap.size:=HGx3.size;have HGy3:=hide (Ge.trans HGx3 (below_one x3 (.cells zc9 42)));have HWy3:=hide (HWx3.below (below_one x3 (.cells zc9 42)));have HQy3:=hide (heap_alloc_new x3 (.cells zc9 42));clear hx3;have HGf:=HGy3;have HQf:=HQy3;have HWf:=HWy3;generalize x3.heap.size=qf at *;exact Zb0):P:=h
theorem Sb18.Kb8(h:P:=by
 have HGf:=HGy3;have HQf:=HQy3;have HWf:=HWy3;exact Kb2):P:=h
theorem Yb9(h:P:=by
 have HIDS:=hide z4;have hes:=eSeen_le (m+3+kids.length) 0 seen (fun x hx=>by rw [z4 x hx];exact Nat.le_refl _);obtain⟨hes1,hes2⟩:=hes;have hes3:(eSeen (m+3+kids.length) seen:Int)≤1000000:=by omega
 exact Kb9):P:=h
theorem Sb19.Kb9(h:P:=by
 have hrk0:(rows9 (mNds s L))[k]'(by rw [rows9_length];exact hk')=(⟨(m:Int),(m:Int)+1,(m:Int)+2+kids.length,(eSeen (m+3+kids.length) seen:Nat),.slice A.k kids.length A.ck,.slice A.p 0 A.cp,.slice A.o 0 A.co,.slice A.s seen.length A.cs,.slice A.r 0 A.cr⟩:R9):=by rw [hrk];simp[r9,mNd,mks_length mkInt 1 (m+2) kids kids.length (Nat.le_refl _),mSeen_length]
 have HKD:=hide HNK.k;have HSE:=hide HNK.s;unfold mNd at HKD HSE;dsimp only at HKD HSE HE1;have hkr:k < (rows9 (mNds s L)).length:=by rw [rows9_length];exact hk'
 have HROW:=hide hrow;have hN:=GR.W.nineR hrow k hkr;rw [hrk0] at hN;have HRK:=hide hrk0;obtain⟨e0,hg0,⟨s0,s1,s2,s3,s4,s5,s6,s7,s8⟩,_⟩:=hN;subst e0;dsimp only at s0 s1 s2 s3 s4 s5 s6 s7 s8;clear hrow hrk hrk0 z4 HNK;have HB0:=hide (Below.refl wr.heap.size wr);go_wp2_with fail;refine(heldIntZ A.k G.k A.ck kids.length (m+2) _ kids _ (by omega) rfl (by omega) (by omega) (by omega) (GR.W.below HKD HB0)).mono ?_;rintro e w1 ⟨rfl,hb1⟩;have HB1:=hide (HB0.trans (hb1.mono HB0.size));clear hb1 s0 s1 s2 s3 s4 s5 s6 s7 s8;have hN:=GR.W.nineR (GR.W.below HROW HB1) k hkr;rw [unhide HRK] at hN;obtain⟨_,_,⟨s0,s1,s2,s3,s4,s5,s6,s7,s8⟩,_⟩:=hN;dsimp only at s0 s1 s2 s3 s4 s5 s6 s7 s8;go_wp2_with fail;refine(heldPurseZ A.p G.p A.cp 0 (m+3+kids.length) _ [] _ (by first|omega|(simp;done)|(simp;omega)) rfl (by omega) (by omega) (by simp) GR.W.nil).mono ?_;rintro e w2 ⟨rfl,hb2⟩;have HB2:=hide (HB1.trans (hb2.mono HB1.size));clear hb2 s0 s1 s2 s3 s4 s5 s6 s7 s8;have hN:=GR.W.nineR (GR.W.below HROW HB2) k hkr;rw [unhide HRK] at hN;obtain⟨_,_,⟨s0,s1,s2,s3,s4,s5,s6,s7,s8⟩,_⟩:=hN;dsimp only at s0 s1 s2 s3 s4 s5 s6 s7 s8;go_wp2_with fail;refine(heldSentZ A.o G.o A.co 0 (m+3+kids.length) _ [] _ (by first|omega|(simp;done)|(simp;omega)) rfl (by omega) (by omega) (by simp) GR.W.nil).mono ?_;rintro e w3 ⟨rfl,hb3⟩;have HB3:=hide (HB2.trans (hb3.mono HB2.size));clear hb3 s0 s1 s2 s3 s4 s5 s6 s7 s8;have hN:=GR.W.nineR (GR.W.below HROW HB3) k hkr;rw [unhide HRK] at hN;obtain⟨_,_,⟨s0,s1,s2,s3,s4,s5,s6,s7,s8⟩,_⟩:=hN;dsimp only at s0 s1 s2 s3 s4 s5 s6 s7 s8;go_wp2_with fail;refine(heldSeenZ A.s G.s A.cs seen.length (m+3+kids.length) _ G.i seen _ (by first|omega|(simp;done)|(simp;omega)) rfl (by omega) (by omega) (by omega) (fun x hx=>by rw [unhide HIDS x hx];exact Nat.zero_le _) (HSE.off (F:=[]) (KeepsL.of_below HB3) (fun _ _=>by simp))).mono ?_;rintro e w4 ⟨rfl,hb4⟩;have HB4:=hide (HB3.trans (hb4.mono HB3.size));clear hb4 s0 s1 s2 s3 s4 s5 s6 s7 s8;have hN:=GR.W.nineR (GR.W.below HROW HB4) k hkr;rw [unhide HRK] at hN;obtain⟨_,_,⟨s0,s1,s2,s3,s4,s5,s6,s7,s8⟩,_⟩:=hN;dsimp only at s0 s1 s2 s3 s4 s5 s6 s7 s8;go_wp2_with fail;refine(heldReqZ A.r G.r A.cr 0 (eSeen (m+3+kids.length) seen+1) _ [] _ (by first|omega|(simp;done)|(simp;omega)) rfl (by omega) (by omega) (by simp) GR.W.nil).mono ?_;rintro e w5 ⟨rfl,hb5⟩;have HB5:=hide (HB4.trans (hb5.mono HB4.size));clear hb5 s0 s1 s2 s3 s4 s5 s6 s7 s8;go_wp2_with fail;go_roundw
 case rel=>exact⟨k+1,eNd m ⟨id,par,kids,next,[],[],seen,old,[]⟩,by omega,by go_num,by simp[eNd],HE1.symm,HBL.trans (HB5.mono HBL.size)⟩
 case measure=>simp[intOf];omega):P:=h
theorem Sb20.Kb9(h:P:=by
 dsimp only at HKD HSE;have hkr:k < (rows9 (mNk s L k)).length:=by rw [rows9_length];exact hk'
 have HROW:=hide hrow;have hrk0:(rows9 (mNk s L k))[k]=(⟨id,par,next,old,.slice A.k kids.length A.ck,.slice A.p 0 A.cp,.slice A.o 0 A.co,.slice A.s seen.length A.cs,.slice A.r 0 A.cr⟩:R9):=hrk;have HRK:=hide hrk0;have hN:=GR.W.nineR hrow k hkr;rw [hrk0] at hN;obtain⟨e0,hg0,⟨s0,s1,s2,s3,s4,s5,s6,s7,s8⟩,f0,f1,f2,f3,f4,f5,f6,f7,f8⟩:=hN;subst e0;dsimp only at s0 s1 s2 s3 s4 s5 s6 s7 s8;have hgf:∀(R:List R9) x,x∈fp g R→x=g:=fun R x hx=>(of_fp hx).1
 have HGF:=hide hgf;have hks:∀R:R9,k < ((rows9 (mNk s L k)).set k R).length:=fun R=>by simpa using hkr
 have HKS:=hide hks;clear hga hgk hgs hdk hds hFk hFs hAll HNK HNDA HFA HND HGM hrow hrk hrk0 z4 hgf hks HSM HR;go_wp2_with fail
 have hr2:GR.W enc9 9 ((wr.setCell ⟨g,k*9,none⟩ (.int .i64 (m:Int))).setCell ⟨g,k*9+1,none⟩ (.int .i64 ((m:Int)+1))) (some ⟨g,0,none⟩) g ((rows9 (mNk s L k)).set k (⟨(m:Int),(m:Int)+1,next,old,.slice A.k kids.length A.ck,.slice A.p 0 A.cp,.slice A.o 0 A.co,.slice A.s seen.length A.cs,.slice A.r 0 A.cr⟩:R9)):=by
  have h1:=GR.W.cellR HROW k 0 hkr (by omega) (.int .i64 (m:Int)) (⟨(m:Int),par,next,old,.slice A.k kids.length A.ck,.slice A.p 0 A.cp,.slice A.o 0 A.co,.slice A.s seen.length A.cs,.slice A.r 0 A.cr⟩:R9) (by rw [unhide HRK];rfl);have h2:=GR.W.cellR h1 k 1 (HKS _) (by omega) (.int .i64 ((m:Int)+1)) (⟨(m:Int),(m:Int)+1,next,old,.slice A.k kids.length A.ck,.slice A.p 0 A.cp,.slice A.o 0 A.co,.slice A.s seen.length A.cs,.slice A.r 0 A.cr⟩:R9) (by rw [List.getElem_set_self];rfl);rw [List.set_set] at h2;exact h2
 have hk2:KeepsL [g] wr ((wr.setCell ⟨g,k*9,none⟩ (.int .i64 (m:Int))).setCell ⟨g,k*9+1,none⟩ (.int .i64 ((m:Int)+1))):=(KeepsL.set _).trans (KeepsL.set _);have HS2:=hide (HSE.off hk2 (fun x hx hm=>HGS x hx (by simpa using hm)));refine(markIntZ A.k G.k A.ck (m+2) _ kids _ (by omega) (by omega) (by omega) (by omega) (HKD.keeps hk2 (fun x hx hm=>HGK x hx (by simpa using hm)))).mono ?_;rintro e w3 ⟨rfl,hW3,hK3⟩;have HW3:=hide hW3;have HR3:=hide (hr2.keeps hK3 (fun x hx hm=>HGK x hm (HGF _ x hx)));have HS3:=hide (HS2.off hK3 (fun x hx hm=>HDK x hm hx));have HK3:=hide ((hk2.mono (fun x hx=>by have:x=g:=(by simpa using hx);rw [this];exact List.mem_cons_self ..):KeepsL (g::GA) wr _).trans (hK3.mono HFK));clear hr2 hk2 hW3 hK3 HS2 HKD HSE HROW s0 s1 s2 s3 s4 s5 s6 s7 s8 f0 f1 f2 f3 f4 f5 f6 f7 f8;obtain⟨_,_,⟨s0,s1,s2,s3,s4,s5,s6,s7,s8⟩,f0,f1,f2,f3,f4,f5,f6,f7,f8⟩:=GR.W.nineR HR3 k (HKS _);rw [List.getElem_set_self] at s0 s1 s2 s3 s4 s5 s6 s7 s8;dsimp only at s0 s1 s2 s3 s4 s5 s6 s7 s8;go_wp2_with fail
 have hr:GR.W enc9 9 (w3.setCell ⟨g,k*9+3,none⟩ (.int .i64 ((m:Int)+2+kids.length))) (some ⟨g,0,none⟩) g ((rows9 (mNk s L k)).set k (⟨(m:Int),(m:Int)+1,(m:Int)+2+kids.length,old,.slice A.k kids.length A.ck,.slice A.p 0 A.cp,.slice A.o 0 A.co,.slice A.s seen.length A.cs,.slice A.r 0 A.cr⟩:R9)):=by
  have h2:=GR.W.cellR HR3 k 3 (HKS _) (by omega) (.int .i64 ((m:Int)+2+kids.length)) (⟨(m:Int),(m:Int)+1,(m:Int)+2+kids.length,old,.slice A.k kids.length A.ck,.slice A.p 0 A.cp,.slice A.o 0 A.co,.slice A.s seen.length A.cs,.slice A.r 0 A.cr⟩:R9) (by rw [List.getElem_set_self];rfl);rw [List.set_set] at h2;exact h2
 have hk2:KeepsL [g] w3 (w3.setCell ⟨g,k*9+3,none⟩ (.int .i64 ((m:Int)+2+kids.length))):=KeepsL.set _;have hW:=HW3.keeps hk2 (fun x hx hm=>HGK x (by rwa [fp_len (mks_length mkInt 1 (m+2) kids kids.length (Nat.le_refl _))] at hx) (by simpa using hm));have hS:=HS3.off hk2 (fun x hx hm=>HGS x (hx) (by simpa using hm));have hKK:=HK3.trans (hk2.mono (fun x hx=>by have:x=g:=(by simpa using hx);rw [this];exact List.mem_cons_self ..));refine(markPurseZ A.p G.p A.cp (m+3+kids.length) _ [] _ (by first|omega|(simp;done)|(simp;omega)) (by omega) (by omega) (by simp) GR.W.nil).mono ?_;rintro e w5 ⟨rfl,_,hK⟩;have HR5:=hide (hr.keeps hK (fun x hx hm=>by simp[fp] at hm));have HW5:=hide (hW.keeps hK (fun x hx hm=>by simp[fp] at hm));have HS5:=hide (hS.off hK (fun x hx hm=>by simp[fp] at hm));have HK5:=hide (hKK.trans (hK.mono (fun x hx=>by simp[fp] at hx)));clear hr hW hS hKK hK hk2 HR3 HW3 HS3 HK3 s0 s1 s2 s3 s4 s5 s6 s7 s8 f0 f1 f2 f3 f4 f5 f6 f7 f8;obtain⟨_,_,⟨s0,s1,s2,s3,s4,s5,s6,s7,s8⟩,f0,f1,f2,f3,f4,f5,f6,f7,f8⟩:=GR.W.nineR HR5 k (HKS _);rw [List.getElem_set_self] at s0 s1 s2 s3 s4 s5 s6 s7 s8;dsimp only at s0 s1 s2 s3 s4 s5 s6 s7 s8;go_wp2_with fail;have hr:=unhide HR5;have hW:=unhide HW5;have hS:=unhide HS5;have hKK:=unhide HK5;refine(markSentZ A.o G.o A.co (m+3+kids.length) _ [] _ (by first|omega|(simp;done)|(simp;omega)) (by omega) (by omega) (by simp) GR.W.nil).mono ?_;rintro e w6 ⟨rfl,_,hK⟩;have HR6:=hide (hr.keeps hK (fun x hx hm=>by simp[fp] at hm));have HW6:=hide (hW.keeps hK (fun x hx hm=>by simp[fp] at hm));have HS6:=hide (hS.off hK (fun x hx hm=>by simp[fp] at hm));have HK6:=hide (hKK.trans (hK.mono (fun x hx=>by simp[fp] at hx)));clear hr hW hS hKK hK HR5 HW5 HS5 HK5 s0 s1 s2 s3 s4 s5 s6 s7 s8 f0 f1 f2 f3 f4 f5 f6 f7 f8;obtain⟨_,_,⟨s0,s1,s2,s3,s4,s5,s6,s7,s8⟩,f0,f1,f2,f3,f4,f5,f6,f7,f8⟩:=GR.W.nineR HR6 k (HKS _);rw [List.getElem_set_self] at s0 s1 s2 s3 s4 s5 s6 s7 s8;dsimp only at s0 s1 s2 s3 s4 s5 s6 s7 s8;go_wp2_with fail;have hr:=unhide HR6;have hW:=unhide HW6;have hS:=unhide HS6;have hKK:=unhide HK6;refine(markSeenZ A.s G.s A.cs (m+3+kids.length) _ G.i seen _ (by first|omega|(simp;done)|(simp;omega)) (by omega) (by omega) (by omega) (fun x hx=>by rw [unhide HIDS x hx];exact Nat.zero_le _) HDS hS).mono ?_;rintro e w7 ⟨rfl,hSS,hK⟩;have HR7:=hide (hr.keeps hK (fun x hx hm=>HGS x hm (HGF _ x hx)));have HW7:=hide (hW.keeps hK (fun x hx hm=>HDK x (by rwa [fp_len (mks_length mkInt 1 (m+2) kids kids.length (Nat.le_refl _))] at hx) hm));have HS7:=hide hSS;have HK7:=hide (hKK.trans (hK.mono HFS))
 have HSF:Hid (∀x∈fp G.s (mSeen (m+3+kids.length) seen)++fpI G.i (mSeen (m+3+kids.length) seen),x∈fp G.s seen++fpI G.i seen):=fun x hx=>by
  rcases List.mem_append.1 hx with hx|hx
  ·exact List.mem_append_left _ (fp_mS hx)
  ·exact List.mem_append_right _ (fpI_mS hx)
 clear hSS;clear hr hW hS hKK hK HR6 HW6 HS6 HK6 s0 s1 s2 s3 s4 s5 s6 s7 s8 f0 f1 f2 f3 f4 f5 f6 f7 f8;obtain⟨_,_,⟨s0,s1,s2,s3,s4,s5,s6,s7,s8⟩,f0,f1,f2,f3,f4,f5,f6,f7,f8⟩:=GR.W.nineR HR7 k (HKS _);rw [List.getElem_set_self] at s0 s1 s2 s3 s4 s5 s6 s7 s8;dsimp only at s0 s1 s2 s3 s4 s5 s6 s7 s8;go_wp2_with fail
 have hr:GR.W enc9 9 (w7.setCell ⟨g,k*9+7,none⟩ (.int .i64 ((eSeen (m+3+kids.length) seen:Nat)))) (some ⟨g,0,none⟩) g ((rows9 (mNk s L k)).set k (⟨(m:Int),(m:Int)+1,(m:Int)+2+kids.length,(eSeen (m+3+kids.length) seen:Nat),.slice A.k kids.length A.ck,.slice A.p 0 A.cp,.slice A.o 0 A.co,.slice A.s seen.length A.cs,.slice A.r 0 A.cr⟩:R9)):=by
  have h2:=GR.W.cellR HR7 k 7 (HKS _) (by omega) (.int .i64 ((eSeen (m+3+kids.length) seen:Nat))) (⟨(m:Int),(m:Int)+1,(m:Int)+2+kids.length,(eSeen (m+3+kids.length) seen:Nat),.slice A.k kids.length A.ck,.slice A.p 0 A.cp,.slice A.o 0 A.co,.slice A.s seen.length A.cs,.slice A.r 0 A.cr⟩:R9) (by rw [List.getElem_set_self];rfl);rw [List.set_set] at h2;exact h2
 have hk2:KeepsL [g] w7 (w7.setCell ⟨g,k*9+7,none⟩ (.int .i64 ((eSeen (m+3+kids.length) seen:Nat)))):=KeepsL.set _;have hW:=HW7.keeps hk2 (fun x hx hm=>HGK x (by rwa [fp_len (mks_length mkInt 1 (m+2) kids kids.length (Nat.le_refl _))] at hx) (by simpa using hm));have hS:=HS7.off hk2 (fun x hx hm=>HGS x (HSF x hx) (by simpa using hm));have hKK:=HK7.trans (hk2.mono (fun x hx=>by have:x=g:=(by simpa using hx);rw [this];exact List.mem_cons_self ..));refine(markReqZ A.r G.r A.cr (eSeen (m+3+kids.length) seen+1) _ [] _ (by first|omega|(simp;done)|(simp;omega)) (by omega) (by omega) (by simp) GR.W.nil).mono ?_;rintro e w9 ⟨rfl,_,hK⟩;have HR9:=hide (hr.keeps hK (fun x hx hm=>by simp[fp] at hm));have HW9:=hide (hW.keeps hK (fun x hx hm=>by simp[fp] at hm));have HS9:=hide (hS.off hK (fun x hx hm=>by simp[fp] at hm));have HK9:=hide (hKK.trans (hK.mono (fun x hx=>by simp[fp] at hx)));clear hr hW hS hKK hK hk2 HR7 HW7 HS7 HK7 s0 s1 s2 s3 s4 s5 s6 s7 s8 f0 f1 f2 f3 f4 f5 f6 f7 f8;go_wp2_with fail;go_roundw
 case rel=>
  have hfin:=unhide HRND w9 (mNd m ⟨id,par,kids,next,[],[],seen,old,[]⟩,A,G) rfl (by
   have e:r9 (mNd m ⟨id,par,kids,next,[],[],seen,old,[]⟩,A,G)=(⟨(m:Int),(m:Int)+1,(m:Int)+2+kids.length,(eSeen (m+3+kids.length) seen:Nat),.slice A.k kids.length A.ck,.slice A.p 0 A.cp,.slice A.o 0 A.co,.slice A.s seen.length A.cs,.slice A.r 0 A.cr⟩:R9):=by simp[r9,mNd,mks_length mkInt 1 (m+2) kids kids.length (Nat.le_refl _),mSeen_length]
   rw [e]
   exact HR9) ⟨HW9,GR.W.nil,GR.W.nil,HS9,GR.W.nil⟩ HALL HK9
  rw [unhide HSET] at hfin;refine⟨k+1,eNd m ⟨id,par,kids,next,[],[],seen,old,[]⟩,by omega,by go_num,?_,HE1.symm,hfin.1,HK.trans ?_⟩
  ·simp[eNd]
  ·exact hfin.2.mono (fun x hx=>by rw [mNk_fp (unhide HSMA) (by omega)] at hx;exact hx)
 case measure=>simp[intOf];omega):P:=h
theorem Yb10(h:P:=by
 generalize newN (k:Int) l[k] (kidsN l (k:Int))=R at *;obtain⟨N1,ok1⟩:=R;dsimp only at HNW HNX;generalize l[k]=pk at *;generalize kidsN l (k:Int)=kd at *;exact Kb10):P:=h
theorem Sb21.Kb10(h:P:=by
 go_upto_region 5 with fail;go_cut [5,6] (fun p b wx=>∃q A3 G3,p= .pointer (some ⟨q,0,none⟩)∧w1.heap.size≤q∧wx.heap[q]?=some (.cells (ndc N1 A3) 42 (0,0))∧NodeW wx A3 G3 N1∧(G3.all N1).Nodup∧(∀x∈G3.all N1,w1.heap.size≤x∧x≠q∧x < wx.heap.size)∧Below w1.heap.size w1 wx)
 case first=>
  have hwb:w1.heap.size≤w1.heap.size:=Nat.le_refl _;refine wp_region_mixB 15 w1.heap.size (by kernel_rfl) ?_;show wpMixB _ _ _ _ _ _ 16 (Array.replicate 16 false) _ _
  refine tk [0,1,2,3,4,5,6,7] ?_;iterate 8 (refine tkB hwb (fun K hK=>?_);go_simp;first|refine hK _ ?_|(apply Exists.intro;refine⟨fun _=>?_,hK _ ?_⟩;rfl);clear hK K)
  refine tkN ?_;clear hwb;have HG0:=hide (Below.refl w1.heap.size w1);refine wpMixB_two 8 13 rfl rfl (by kernel_rfl) (by rfl) (by rfl) (by decide) (by decide) (fun x1 hx1=>?_) (fun x1 hx1=>?_)
  ·have HGx1:=hide (Ge.trans HG0 hx1);go_simp;refine(HKD x1 HGx1).mono ?_;rintro e y1 ⟨v1,rfl,hov,hb1⟩;obtain⟨kb,kc,rfl,hcap,hat⟩:=ints_form hov;refine⟨hb1.mono HGx1.size,?_⟩;have HGy1:=hide (Ge.trans HGx1 hb1);have HKy1:=hide hat;clear hov hat hx1 hb1;refine wpMixB_two 9 13 rfl rfl (by kernel_rfl) (by rfl) (by rfl) (by decide) (by decide) (fun x2 hx2=>?_) (fun x2 hx2=>?_)
   ·have HGx2:=hide (Ge.trans HGy1 hx2);have HKx2:=hide (GR.At.below HKy1 hx2);go_simp;refine(HNW x2 kb kc hcap HKx2).mono ?_;rintro e y2 ⟨A3,rfl,G3,hNW,hsep,hb2⟩;refine⟨hb2.mono HGx2.size,?_⟩;have hxd:w1.heap.size≤x2.heap.size:=HGx2.size;have HGy2:=hide (Ge.trans HGx2 hb2);have HWy2:=hide hNW;have HSEP:=hide hsep;have hyd:y2.heap.size≤y2.heap.size:=Nat.le_refl _;clear hNW hsep hx2 hb2;have hwp:w1.heap.size≤y2.heap.size:=HGy2.size;open Sb17 in exact Yb8
   ·have HGx2:=hide (Ge.trans HGy1 hx2);have HKx2:=hide (GR.At.below HKy1 hx2);go_simp;refine⟨(below_one x2 _).mono HGx2.size,?_⟩;have hqV:w1.heap.size≤x2.heap.size:=HGx2.size;have HGy2:=hide (Ge.trans HGx2 (below_one x2 (.cells zc9 42)));have HKy2:=hide (GR.At.below HKx2 (below_one x2 (.cells zc9 42)));have HQy2:=hide (heap_alloc_new x2 (.cells zc9 42));clear hx2;open Sb14 in exact Yb6
  ·have HGx1:=hide (Ge.trans HG0 hx1);go_simp;refine⟨(below_one x1 _).mono HGx1.size,?_⟩;have hqV:w1.heap.size≤x1.heap.size:=HGx1.size;have HGy1:=hide (Ge.trans HGx1 (below_one x1 (.cells zc9 42)));have HQy1:=hide (heap_alloc_new x1 (.cells zc9 42));clear hx1;refine wpMixB_one 8 rfl (by kernel_rfl) (by rfl) (by decide) (fun x2 hx2=>?_);have HGx2:=hide (Ge.trans HGy1 hx2);have HQx2:=hide (obj_step HQy1 hx2);go_simp;refine(HKD x2 HGx2).mono ?_;rintro e y2 ⟨v2,rfl,hov,hb2⟩;obtain⟨kb,kc,rfl,hcap,hat⟩:=ints_form hov;refine⟨hb2.mono HGx2.size,?_⟩;have HGy2:=hide (Ge.trans HGx2 hb2);have HQy2:=hide (obj_step HQx2 hb2);have HKy2:=hide hat;clear hov hat hx2 hb2;open Sb13 in exact Yb6
 case rest=>
  obtain⟨q,A3,G3,rfl,hq1,hQ,hW,hnd,hrg,hbx⟩:=hcut;obtain⟨wz,hwz⟩:∃x,x=wc:=⟨_,rfl⟩;subst hwz;open Sb7 in exact Yb3):P:=h
theorem Sb22.Kb10(h:P:=by
 go_wp2_with fail;refine(HKD _ (Below.refl _ _)).mono ?_;rintro e w3 ⟨v3,rfl,hov,hb3⟩;obtain⟨kb,kc,rfl,_,hat⟩:=ints_form hov;clear hov y0 q0;go_wp2_with fail;refine(HNW _ kb kc hat).mono ?_;rintro e w4 ⟨A3,rfl,G3,hW4,hsep,hb4⟩;have hb14:=hb3.trans (hb4.mono hb3.size);have hs3:=hb3.size;have hs4:=hb4.size;clear hb3 hb4 hat;go_upto_region 8 with fail;refine wp_at (fun wz hwz=>?_);have hwz':wz=w4.alloc (.cells (ndc N1 A3) 42):=hwz;have hQ:wz.heap[w4.heap.size]?=some (.cells (ndc N1 A3) 42 (0,0)):=by rw [hwz'];exact heap_alloc_new w4 _
 have hbz:Below w4.heap.size w4 wz:=by rw [hwz'];exact below_one w4 _
 have hsz:wz.heap.size=w4.heap.size+1:=by rw [hwz'];simp
 have hbx:Below w1.heap.size w1 wz:=hb14.trans (hbz.mono hb14.size);have hW:NodeW wz A3 G3 N1:=hW4.below hbz
 have hrg:∀x∈G3.all N1,w1.heap.size≤x∧x≠w4.heap.size∧x < wz.heap.size:=fun x hx=>by
  have h1:=hsep.rng x hx
  omega
 have hnd:=hsep.nodup;clear hwz hwz' hW4 hsep hb14 hbz hsz;open Sb8 in exact Yb3):P:=h
theorem Yb11(h:P:=by
 have HT0:=heap_alloc_new w (.cells #[.slice a l.length cap] 28);have HB0:=below_one' w (.cells #[.slice a l.length cap] 28);have HA0:=GR.At.below ha HB0;have hsz0:(w.alloc (.cells #[.slice a l.length cap] 28)).heap.size=w.heap.size+1:=by simp
 exact Kb11):P:=h
theorem Sb23.Kb11(h:P:=by
 have HC:=hide (fun W (hb:Below (w.alloc (.cells #[.slice a l.length cap] 28)).heap.size (w.alloc (.cells #[.slice a l.length cap] 28)) W)=>specTreeOk a cap l W hl (GR.At.below HA0 hb));have HK:=hide (fun W (n:Int) (hb:Below (w.alloc (.cells #[.slice a l.length cap] 28)).heap.size (w.alloc (.cells #[.slice a l.length cap] 28)) W) (htb:treeB l=true) (hn:0≤n)=>specKidsOf a cap l n W hl (GR.At.below HA0 hb) htb hn);clear ha;go_enter Try.func5,Try.ntmps5
 go_wp2_with fail;generalize w.alloc (.cells #[.slice a l.length cap] 28)=W0 at *;have HA:=hide HA0;have HB:=hide HB0;have HT:=hide HT0;have HZ:=hide hsz0;clear HA0 HB0 HT0 hsz0;go_loopw [3,4] (fun v i wr=>∃(k:Nat) (L:List NdI),k≤l.length∧i= .int .i64 k∧(k=0∨treeB l=true)∧L.map (fun x=>x.1)=nodesTo l k∧NL wr W0.heap.size v L∧Below W0.heap.size W0 wr) (fun _ i _=>l.length - (intOf i).toNat)
 case atStart=>
  refine⟨0,[],Nat.zero_le _,rfl,.inl rfl,rfl,NL.nil ?_,(Below.refl _ _).alloc (Nat.le_refl _) _⟩;rw [←unhide HZ];exact World.ownsRow_lit _ #[] 0 (Nat.le_refl _) (by decide) rfl
 case round=>
  obtain⟨k,L,hk,rfl,hkt,hLm,hNL,hbel⟩:=hrel;have HBL:=hide hbel;have HNL:=hide hNL;have HLM:=hide hLm;have t1:=(one_at (tr_step HT hbel)).1;clear hNL hLm;by_cases hlt:k < l.length
  ·have HOK:=unhide HC _ hbel;clear hbel;go_wp2_with fail;refine HOK.mono ?_;rintro e w1 ⟨rfl,hb1⟩;have HB1:=hide (HBL.trans (hb1.mono HBL.size));have HNL1:=hide (HNL.step hb1);have HT1:=hide (tr_step HT HB1);clear hb1 t1 HNL HBL;cases htb:treeB l
   case' false=>
    have hk0:k=0:=by
     rcases hkt with h|h
     ·exact h
     ·rw [htb] at h;simp at h
    subst hk0
    go_wp2_with fail
    go_ret
    exact⟨_,L,rfl,by rw [nodesT_no htb];exact HLM,HNL1.lower (by have:=unhide HZ;omega),HB.trans (HB1.mono HB.size)⟩
   have HTB:=hide htb;have hl30:=(TreeP.of htb).le;obtain⟨g,off,rfl,hgw,q0⟩:=IntsAt.one (GR.At.below HA HB1) k hlt;have htl:=obj_lt HT1;have y0:=cell_und (b:=w1.heap.size) htl (one_at HT1).1;have y1:=cell_und (b:=w1.heap.size) hgw q0;have HKD:=hide (fun W (hg:Below w1.heap.size w1 W)=>HK W (k:Int) (HB1.trans (hg.mono HB1.size)) htb (Int.natCast_nonneg k));have HNX:=hide (nodesTo_succ l k hlt);have hkl:(kidsN l (k:Int)).length≤1048576:=Nat.le_trans (kidsTo_len l (k:Int) l.length) (by omega);have HNW:=hide (fun W b c (h1:b=none→c=0) (h2:IntsAt W b (kidsN l (k:Int)))=>specNodeNew (k:Int) l[k] b c (kidsN l (k:Int)) W hkl h1 h2);unfold GivesN at HNW;clear q0 hkl HK htb hkt;open Sb21 in exact Yb10
  ·have hke:k=l.length:=by omega
   subst hke;clear hbel;go_wp2_with fail;go_ret;rcases hkt with h|h
   ·have hnl:treeB l=false:=treeB_len l (.inl h);have hL0:L.map (fun x=>x.1)=[]:=by rw [unhide HLM,h];rfl
    exact⟨_,L,rfl,by rw [nodesT_no hnl];exact hL0,HNL.lower (by have:=unhide HZ;omega),HB.trans (HBL.mono HB.size)⟩
   ·exact⟨_,L,rfl,by rw [nodesT_yes h];exact HLM,HNL.lower (by have:=unhide HZ;omega),HB.trans (HBL.mono HB.size)⟩):P:=h
theorem Sb24.Kb11(h:P:=by
 have HC:=implOk a cap l (w.alloc (.cells #[.slice a l.length cap] 28)) hl HA0;have HK:=hide (fun W (n:Int) (hb:Below (w.alloc (.cells #[.slice a l.length cap] 28)).heap.size (w.alloc (.cells #[.slice a l.length cap] 28)) W)=>implKids a cap l n W hl (GR.At.below HA0 hb));clear ha;go_enter Try.func7,Try.ntmps7
 go_upto_region 1 with fail;generalize w.alloc (.cells #[.slice a l.length cap] 28)=W0 at *;have HA:=hide HA0;have HB:=hide HB0;have HT:=hide HT0;have HZ:=hide hsz0;have HO:=hide HC;have t0:=(one_at HT0).1;clear HA0 HB0 HT0 hsz0 HC;go_wp2_with fail;refine HO.mono ?_;rintro e W1 ⟨rfl,hb0⟩;have HBW:=hide hb0;have t1:=(one_at (tr_step HT hb0)).1;clear hb0 t0;cases htb:treeB l
 case' false=>
  go_wp2_with fail
  go_ret
  exact⟨_,[],rfl,(nodesT_no htb).symm,NL.nil (World.ownsRow_nil _ _ _ _),HB.trans (HBW.mono HB.size)⟩
 have HTB:=hide htb;have hl30:=(TreeP.of htb).le;clear htb;go_wp2_with fail;go_loopw [3,14] (fun v i wr=>∃(k:Nat) (L:List NdI),k≤l.length∧i= .int .i64 k∧L.map (fun x=>x.1)=nodesTo l k∧NL wr W0.heap.size v L∧Below W0.heap.size W0 wr) (fun _ i _=>l.length - (intOf i).toNat)
 case atStart=>exact⟨0,[],Nat.zero_le _,rfl,rfl,NL.nil (World.ownsRow_nil _ _ _ _),HBW⟩
 case round=>
  obtain⟨k,L,hk,rfl,hLm,hNL,hbel⟩:=hrel;obtain⟨w1,hw1⟩:∃x,x=wr:=⟨_,rfl⟩;subst hw1;have HB1:=hide hbel;have HNL1:=hide hNL;have HLM:=hide hLm;have HT1:=hide (tr_step HT hbel);clear hNL hLm hbel;by_cases hlt:k < l.length
  ·obtain⟨g,off,rfl,hgw,q0⟩:=IntsAt.one (GR.At.below HA HB1) k hlt;have y0:=(one_at HT1).1;have HKD:=hide (fun W (hg:Below w1.heap.size w1 W)=>HK W (k:Int) (HB1.trans (hg.mono HB1.size)));have HNX:=hide (nodesTo_succ l k hlt);have hkl:(kidsN l (k:Int)).length≤1048576:=Nat.le_trans (kidsTo_len l (k:Int) l.length) (by omega);have HNW:=hide (fun W b c (h2:IntsAt W b (kidsN l (k:Int)))=>implNodeNew (k:Int) l[k] b c (kidsN l (k:Int)) W hkl h2);unfold GivesN at HNW;clear hkl HK t1;open Sb22 in exact Yb10
  ·have hke:k=l.length:=by omega
   subst hke;go_wp2_with fail;go_ret;exact⟨_,L,rfl,by rw [nodesT_yes (unhide HTB)];exact HLM,HNL1.lower (by have:=unhide HZ;omega),HB.trans (HB1.mono HB.size)⟩):P:=h
end Go.Proofs.Ytheiblbhlmaphaa
