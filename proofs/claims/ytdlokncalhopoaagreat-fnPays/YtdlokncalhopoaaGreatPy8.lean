/- Parts. -/
import Derived.Test.YtdlokncalhopoaaGreatPy7
import Derived.Test.YtdlokncalhopoaaGreatPy3
import Derived.Test.YtdlokncalhopoaaGreatPy1
import Derived.Lib.Strings
import Derived.Lib.BufferWrite
import Derived.Lib.UnsafeStr
import Derived.Laws.MakeOwn
import Derived.Laws.CopyOwn
import Derived.Deep.RegionLaw
namespace Go.Proofs.YtdlokncalhopoaaGreat
set_option maxHeartbeats 4000000
set_option maxRecDepth 100000
open Go.RowKit
open Mth
theorem GivesM.of_own {w w':World} {B:Nat} {v:Value} {L:List Mg} {n:Nat} (hn:n=L.length) (h:w'.ownsRow B 37 7 v n (GR.flat encM L)) (hB:w.heap.size≤B) (hb:Below w.heap.size w w'):GivesM w L (.returned v) w':=by
 subst hn
 obtain⟨a,c,g,rfl,hW,hr,_⟩:=GR.W.of_own encM_length h
 exact⟨a,c,rfl,g,hW,fun x hx=>⟨Nat.le_trans hB (hr x hx).1,(hr x hx).2⟩,hb⟩
theorem flat_snoc {α:Type} (enc:α→List Value) (l:List α) (x:α):GR.flat enc (l++[x])=GR.flat enc l++enc x:=by
 rw [GR.flat_append]
 simp[GR.flat]
theorem specPays (n:Nd) (A:Ads) (w:World) (hsz:NdSz n 1048600) (ha:NodeAt w A n):
 Calls Tryz.prog 8 #[ndv n A] w (GivesM w (paysL n)):=by
 obtain⟨i0,hi,hz0,hz1,hz2⟩:=info_parts infoMsg
 have HOK:=hide (fun W (hb:Below w.heap.size w W)=>specNodeOk n A W hsz (ha.below hb))
 have HPY:=hide (fun s W (hb:Below w.heap.size w W) w1 (h:w1.heap=W.heap)=>specPay n A s w1 hsz.o (GR.At.heap (GR.At.below ha.o hb) h))
 obtain⟨L,hL⟩:∃L,paysL n=L:=⟨_,rfl⟩
 have HPL:Hid (L=if ndOk n then n.out.map (payM n) else[]):=hL.symm
 have HPB:=hide (heap_alloc_new w (.cells (ndc n A) 30))
 have HAO:=hide ha.o
 have hlo:=hsz.o
 rw [hL]
 clear hL
 generalize ndOk n=OK at *
 generalize payM n=PM at *
 clear ha hsz
 obtain⟨id,par,kids,next,pu,out,seen,old,reqs⟩:=n
 obtain⟨ak,ap,ao,as',ar,ck,cp,co,cs,cr⟩:=A
 dsimp only at hlo HAO HPB HOK HPY HPL ⊢
 go_enter Tryz.func8,Tryz.ntmps8
 go_upto_region 1 with fail
 refine wp_at (fun W0 hW0=>?_)
 rw [←hW0] at HPB
 have HB0:Hid (Below w.heap.size w W0):=by rw [hW0];exact below_one w _
 have hlt0:w.heap.size < W0.heap.size:=obj_lt (unhide HPB)
 have hnw0:w.heap.size≠W0.heap.size:=by omega
 clear hW0
 have HLIT:Hid ((W0.alloc (.cells #[] 37)).ownsRow W0.heap.size 37 7 (.slice (some ⟨W0.heap.size,0,none⟩) 0 0) 0 []):=World.ownsRow_lit (base:=W0.heap.size) (e:=37) (size:=7) W0 #[] 0 (Nat.le_refl _) (by decide) rfl
 go_wp2_with fail
 go_loopw [3,4] (fun ov i wr=>∃(k:Nat) (va:Option Addr) (vc:Nat),k≤out.length∧i= .int .i64 k∧ov= .slice va k vc∧wr.ownsRow W0.heap.size 37 7 (.slice va k vc) k (GR.flat encM ((out.take k).map PM))∧Below W0.heap.size W0 wr∧(0 < k→OK=true)) (fun _ i _=>out.length - (intOf i).toNat)
 case atStart=>exact⟨0,some ⟨W0.heap.size,0,none⟩,0,Nat.zero_le _,rfl,rfl,unhide HLIT,below_one W0 _,fun h=>by omega⟩
 case round=>
  obtain⟨k,va,vc,hk,rfl,rfl,hown,hbel,hpos⟩:=hrel
  have HO:=hide hown
  have HBL:=hide hbel
  have HW:=hide ((unhide HB0).trans (hbel.mono (unhide HB0).size))
  have HP1:=hide (obj_step (unhide HPB) hbel)
  clear hown hbel HLIT
  obtain⟨c0,c1,c2,c3,c4,c5,c6,c7,c8⟩:=nine (unhide HP1)
  by_cases hlt:k < out.length
  ·obtain⟨g,off,e0,hg,q0,q1,q2,q3⟩:=SentAt.four (GR.At.below (unhide HAO) (unhide HB0)) k hlt
   subst e0
   have HOK1:=hide (unhide HOK wr (unhide HW))
   go_wp2_with fail
   refine(unhide HOK1).mono ?_
   rintro e w4 ⟨rfl,hb4⟩
   have HO4:=hide (GR.own_below (unhide HO) hb4)
   have HBL4:=hide ((unhide HBL).trans (hb4.mono (unhide HBL).size))
   clear hb4 HOK1 c0 c1 c2 c3 c4 c5 c6 c7 c8 HP1 HBL HW HO
   have HP4:=hide (obj_step (unhide HPB) (unhide HBL4))
   have HW4:=hide ((unhide HB0).trans ((unhide HBL4).mono (unhide HB0).size))
   cases hOK:OK
   ·have hk0:k=0:=by
     rcases Nat.eq_zero_or_pos k with h|h
     ·exact h
     ·exact absurd (hpos h) (by rw [hOK];simp)
    subst hk0
    have HE:Hid (L=[]):=by rw [unhide HPL,hOK];rfl
    clear hpos hOK HPL
    go_wp2_with fail
    go_ret
    rw [unhide HE]
    exact GivesM.of_own rfl (unhide HO4) (by omega) (unhide HW4)
   ·clear hpos
    have HPYk:=hide (unhide HPY out[k] w4 (unhide HW4))
    have HT:=hide (show(out.take (k+1)).map PM=(out.take k).map PM++[PM out[k]] by rw [List.take_succ_eq_append_getElem hlt,List.map_append];rfl)
    generalize out[k]=sk at *
    generalize PM sk=mk at *
    obtain⟨si,st,sx,sn⟩:=sk
    obtain⟨mK,mF,mT,mI,mL,mk,mN⟩:=mk
    dsimp only at q0 q1 q2 q3
    have HQ0:=hide q0
    have HQ1:=hide q1
    have HQ2:=hide q2
    have HQ3:=hide q3
    have x0:=((unhide HBL4).cell (p:=⟨g,off+k*4,none⟩) hg).trans q0
    have x1:=((unhide HBL4).cell (p:=⟨g,off+k*4+1,none⟩) hg).trans q1
    have x2:=((unhide HBL4).cell (p:=⟨g,off+k*4+2,none⟩) hg).trans q2
    have x3:=((unhide HBL4).cell (p:=⟨g,off+k*4+3,none⟩) hg).trans q3
    clear q0 q1 q2 q3
    obtain⟨c0,c1,c2,c3,c4,c5,c6,c7,c8⟩:=nine (unhide HP4)
    go_wp2_with fail
    go_region_held_law (fun w'=>(w'.cell? ⟨w.heap.size,0,none⟩=some (.int .i64 id)∧w'.cell? ⟨w.heap.size,1,none⟩=some (.int .i64 par)∧w'.cell? ⟨w.heap.size,2,none⟩=some (.slice ak kids.length ck)∧w'.cell? ⟨w.heap.size,3,none⟩=some (.int .i64 next)∧w'.cell? ⟨w.heap.size,4,none⟩=some (.slice ap pu.length cp)∧w'.cell? ⟨w.heap.size,5,none⟩=some (.slice (some ⟨g,off,none⟩) out.length co)∧w'.cell? ⟨w.heap.size,6,none⟩=some (.slice as' seen.length cs)∧w'.cell? ⟨w.heap.size,7,none⟩=some (.int .i64 old)∧w'.cell? ⟨w.heap.size,8,none⟩=some (.slice ar reqs.length cr))∧w'.cell? ⟨g,off+k*4,none⟩=some (.int .i64 si)∧w'.cell? ⟨g,off+k*4+1,none⟩=some (.int .i64 st)∧w'.cell? ⟨g,off+k*4+2,none⟩=some (.string sx)∧w'.cell? ⟨g,off+k*4+3,none⟩=some (.int .i64 sn)) (go_keep)
     (first
      |((go_at_call 15);(refine(unhide HPYk w4.drew rfl).mono ?_);(rintro e w5 ⟨rfl,hb5⟩);(have hb6:Below w4.heap.size w4 w5:=⟨hb5.os,hb5.tape,hb5.output,hb5.size,hb5.block⟩);(clear hb5);(have HO5:=hide (GR.own_below (unhide HO4) hb6));(have HBL5:=hide ((unhide HBL4).trans (hb6.mono (unhide HBL4).size)));(clear hb6);(have HP5:=hide (obj_step (unhide HPB) (unhide HBL5)));(obtain⟨y0,y1,y2,y3,y4,y5,y6,y7,y8⟩:=nine (unhide HP5));(have u0:=((unhide HBL5).cell (p:=⟨g,off+k*4,none⟩) hg).trans (unhide HQ0));(have u1:=((unhide HBL5).cell (p:=⟨g,off+k*4+1,none⟩) hg).trans (unhide HQ1));(have u2:=((unhide HBL5).cell (p:=⟨g,off+k*4+2,none⟩) hg).trans (unhide HQ2));(have u3:=((unhide HBL5).cell (p:=⟨g,off+k*4+3,none⟩) hg).trans (unhide HQ3)))
      |((refine step_append_ownM _ rfl (.tmp 17) (.tmp 25) 32 rfl W0.heap.size 37 i0 (.agg #[.int .i64 0,.int .i64 0,.int .i64 0,.int .i64 0,.int .i64 0,.string ByteArray.empty,.int .i64 0]) 7 64 Tryz.underlying32 hi hz0 hz1 hz2 rfl (by decide) (.slice va k vc) k (GR.flat encM ((out.take k).map PM)) (by simp[Act.eval]) ((unhide HO5).alloc _) ⟨w5.heap.size,0,none⟩ 1 1 (encM ⟨mK,mF,mT,mI,mL,mk,mN⟩) (by simp[Act.eval]) rfl (World.news_of_block (heap_alloc_new w5 _)) (encM_one _) (by unfold maxLen;omega) (by omega) (Nat.le_trans (unhide HBL5).size (by simp)) ?_);(intro v6 w6 hown6 hgr6 hnil6);(have hown7:w6.ownsRow W0.heap.size 37 7 v6 (k+1) (GR.flat encM ((out.take (k+1)).map PM)):=by rw [unhide HT,flat_snoc];exact hown6);(obtain⟨va6,vc6,hv6,_⟩:=GR.own_at (enc:=encM) (sz:=7) (l:=(out.take (k+1)).map PM) encM_length (by rw [List.length_map,List.length_take,Nat.min_eq_left (by omega)];exact hown7));(rw [List.length_map,List.length_take,Nat.min_eq_left (by omega)] at hv6);(subst hv6);(have HO6:=hide hown7);(have HBL6:=hide (show Below W0.heap.size W0 w6 from((unhide HBL5).alloc (unhide HBL5).size _).trans (grown_belowM hgr6 (fun k e=>((unhide HO5).lt k e).1) (Nat.le_trans (unhide HBL5).size (by simp)))));(clear hown6 hgr6 hnil6 hown7);(have HP6:=hide (obj_step (unhide HPB) (unhide HBL6)));(obtain⟨z0,z1,z2,z3,z4,z5,z6,z7,z8⟩:=nine (unhide HP6));(have t0:=((unhide HBL6).cell (p:=⟨g,off+k*4,none⟩) hg).trans (unhide HQ0));(have t1:=((unhide HBL6).cell (p:=⟨g,off+k*4+1,none⟩) hg).trans (unhide HQ1));(have t2:=((unhide HBL6).cell (p:=⟨g,off+k*4+2,none⟩) hg).trans (unhide HQ2));(have t3:=((unhide HBL6).cell (p:=⟨g,off+k*4+3,none⟩) hg).trans (unhide HQ3)))
      |fail)
    all_goals
     go_wp2_with fail
     go_roundw
     case rel=>exact⟨k+1,va6,vc6,by omega,by go_num,rfl,unhide HO6,unhide HBL6,fun _=>hOK⟩
     case measure=>simp[intOf];omega
  ·have hke:k=out.length:=by omega
   subst hke
   have hnlt:decide ((out.length:Int) < (out.length:Int))=false:=by simp
   have HRS:Hid (L=(out.take out.length).map PM):=by
    rw [unhide HPL,List.take_length]
    cases hOK:OK
    ·rcases Nat.eq_zero_or_pos out.length with h|h
     ·rw [List.eq_nil_of_length_eq_zero h]
      rfl
     ·exact absurd (hpos h) (by rw [hOK];simp)
    ·rfl
   clear hpos
   go_wp2_with fail
   go_ret
   rw [unhide HRS]
   exact GivesM.of_own (by simp) (unhide HO) (by omega) (unhide HW)
set_option maxHeartbeats 1000000
theorem infoByte:(Tryz.prog.info? 5).map (fun i=>(i.zero,i.size,i.bytes))=some (some (.int .u8 0),1,1):=by kernel_rfl
theorem sizeByte:(Tryz.prog.info? 5).map (·.size)=some 1:=by kernel_rfl
theorem cellsByte:Tryz.prog.cellsOf 5=1:=by kernel_rfl
theorem cloneIn_empty (w:World):Calls Tryz.prog 75 #[.string ByteArray.empty] w fun e w'=>e= .returned (.string ByteArray.empty)∧w=w':=by
 go_enter Tryz.func75,Tryz.ntmps75
 go_wp2
 go_ret
 exact⟨rfl,rfl⟩
theorem make_bytes (n:Nat) (hn:n≤281474976710656):∃M:Array Value,M.size=n∧∀W:World,(Instr.makeSlice 22 (.int .i64 (n:Int)) (.int .i64 (n:Int))).run Tryz.prog W= .ok (.slice (some ⟨W.heap.size,0,none⟩) n n) (W.alloc (.cells M 5)):=by
 obtain⟨i0,hi,hz0,hz1,hz2⟩:=info_parts infoByte
 refine⟨madeCells (Value.int .u8 0).cells (((n:Nat):Int).toNat*i0.size),by rw [size_madeCells,hz1];simp,fun W=>?_⟩
 simpa using run_make (P:=Tryz.prog) W 22 5 i0 (.int .u8 0) Tryz.underlying22 hi hz0 .i64 .i64 (n:Int) (n:Int) (by omega) (by omega) (by rw [hz2];omega) (by omega)
theorem copy_all (w:World) (s:ByteArray) (M:Array Value) (hM:M.size=s.size):∃Y:Array Value,Y.toList=s.data.toList.map bv∧
 (Builtin.copy_ #[22,9] 3 #[.slice (some ⟨w.heap.size,0,none⟩) s.size s.size,.string s]).run Tryz.prog (w.alloc (.cells M 5))= .ok (goInt s.size) ((w.alloc (.cells M 5)).setRow w.heap.size Y):=by
 have h:=Lib.run_copy_row_string (P:=Tryz.prog) (w.alloc (.cells M 5)) 22 9 3 5 w.heap.size 0 s.size s.size s M 5 Tryz.underlying22 sizeByte (heap_alloc_new w _) (Nat.le_refl _) (by omega)
 refine⟨_,?_,h⟩
 rw [List.toList_toArray,List.take_zero,List.nil_append,List.drop_of_length_le (by rw [Array.length_toList];omega),List.append_nil]
 rfl
theorem cloneIn (s:ByteArray) (w:World) (h0:0 < s.size) (hlim:s.size≤281474976710656):
 Calls Tryz.prog 75 #[.string s] w fun e w'=>e= .returned (.string s)∧Below w.heap.size w w':=by
 obtain⟨M,hMs,hmk⟩:=make_bytes s.size hlim
 obtain⟨Y,hY,hcp⟩:=copy_all w s M hMs
 have hYs:Y.size=s.size:=by rw [←Array.length_toList,hY];simp
 have hg:((w.alloc (.cells M 5)).setRow w.heap.size Y).heap[w.heap.size]?=some (.cells Y 5 (0,0)):=setRow_heap _ _ M _ 5 (0,0) (heap_alloc_new w _)
 have hus:=Lib.run_unsafeString_row (P:=Tryz.prog) ((w.alloc (.cells M 5)).setRow w.heap.size Y) 114 3 9 5 Tryz.underlying114 cellsByte w.heap.size Y.size (by unfold World.shape?;rw [hg]) s.data.toList
  (fun e=>by have:=size_toList s;rw [e] at this;simp at this;omega) (by rw [size_toList];omega) (by rw [size_toList];omega)
  (fun j x hx=>Lib.cells_of_row hg Y.size j _ (by rw [List.take_of_length_le (by rw [Array.length_toList];exact Nat.le_refl _),hY];simp[bv,hx]))
 rw [size_toList,Lib.mk_data] at hus
 have hne:((s.size:Int) == 0)=false:=beq_eq_false_iff_ne.2 (by omega)
 have hlt:(0:Int) < (s.size:Int):=by omega
 clear hY hMs hg
 go_enter Tryz.func75,Tryz.ntmps75
 go_wp2
 go_ret
 exact⟨rfl,Lib.below_freeze (below_setRow ((Below.refl _ w).alloc (Nat.le_refl _) _) (Nat.le_refl _) Y) (p:=⟨w.heap.size,0,none⟩) (Nat.le_refl _) _⟩
theorem clone (s:ByteArray) (w:World) (hlim:s.size≤281474976710656):
 Calls Tryz.prog 60 #[.string s] w fun e w'=>e= .returned (.string s)∧Below w.heap.size w w':=by
 by_cases h0:0 < s.size
 ·go_enter Tryz.func60,Tryz.ntmps60
  go_wp2_with (go_at_call 75;refine(cloneIn s _ h0 hlim).mono ?_;rintro e w' ⟨rfl,hbel⟩)
  go_ret
  exact⟨rfl,hbel⟩
 ·obtain rfl:=eq_empty s (by omega)
  go_enter Tryz.func60,Tryz.ntmps60
  go_wp2_with (go_at_call 75;refine(cloneIn_empty _).mono ?_;rintro e w' ⟨rfl,rfl⟩)
  go_ret
  exact⟨rfl,Below.refl _ _⟩
set_option maxHeartbeats 4000000
abbrev wkc (n:Nd) (A:Ads) (v:Value):Array Value:=#[.int .i64 n.id,.int .i64 n.par,.slice A.k n.kids.length A.ck,.int .i64 n.next,.slice A.p n.pu.length A.cp,.slice A.o n.out.length A.co,.slice A.s n.seen.length A.cs,.int .i64 n.old,.slice A.r n.reqs.length A.cr,v]
theorem tenC {w:World} {g:Nat} {v0 v1 v2 v3 v4 v5 v6 v7 v8 v9:Value} {t:TypeId} (h:w.heap[g]?=some (.cells #[v0,v1,v2,v3,v4,v5,v6,v7,v8,v9] t (0,0))):
 w.cell? ⟨g,0,none⟩=some v0∧w.cell? ⟨g,1,none⟩=some v1∧w.cell? ⟨g,2,none⟩=some v2∧w.cell? ⟨g,3,none⟩=some v3∧w.cell? ⟨g,4,none⟩=some v4∧w.cell? ⟨g,5,none⟩=some v5∧w.cell? ⟨g,6,none⟩=some v6∧w.cell? ⟨g,7,none⟩=some v7∧w.cell? ⟨g,8,none⟩=some v8∧w.cell? ⟨g,9,none⟩=some v9:=by
 have hc:∀i,w.cell? ⟨g,i,none⟩=#[v0,v1,v2,v3,v4,v5,v6,v7,v8,v9][i]?:=fun i=>cell_of_row w g i _ t (0,0) h
 exact⟨hc 0,hc 1,hc 2,hc 3,hc 4,hc 5,hc 6,hc 7,hc 8,hc 9⟩
structure WS (w2 wr:World) (wb:Nat) (n:Nd) (A:Ads) (v:Value) (L:List Mg):Prop where
 keep:KeepsL [wb] w2 wr
 blk:wr.heap[wb]?=some (.cells (wkc n A v) 45 (0,0))
 own:wr.ownsRow w2.heap.size 37 7 v L.length (GR.flat encM L)
 lt:wb < w2.heap.size
theorem WS.step {w2 wr w':World} {wb:Nat} {n:Nd} {A:Ads} {v:Value} {L:List Mg} (h:WS w2 wr wb n A v L) (hb:Below wr.heap.size wr w'):WS w2 w' wb n A v L:=
 ⟨h.keep.trans (KeepsL.of_below hb),obj_step h.blk hb,GR.own_below h.own hb,h.lt⟩
theorem WS.set {w2 wr:World} {wb g i:Nat} {n:Nd} {A:Ads} {v u:Value} {L:List Mg} (h:WS w2 wr wb n A v L) (hg:w2.heap.size≤g) (hv:v.ownBlock≠some g):WS w2 (wr.setCell ⟨g,i,none⟩ u) wb n A v L:=by
 have hlt:=h.lt
 refine⟨?_,?_,?_,hlt⟩
 ·refine⟨h.keep.os,h.keep.tape,h.keep.output,by have:=h.keep.size;simpa [World.setCell] using this,fun k hk hkn=>?_⟩
  have hkg:k≠g:=by omega
  rw [Below.heap_setCell _ _ _ _ hkg]
  exact h.keep.block k hk hkn
 ·have hkg:wb≠g:=by omega
  rw [Below.heap_setCell _ _ _ _ hkg];exact h.blk
 ·refine h.own.kept (row:=some g) ⟨rfl,rfl,rfl,by simp[World.setCell],fun k _ hk=>Below.heap_setCell _ _ _ _ (fun e=>hk (by rw [e]))⟩ ?_
  cases hv':v.ownBlock with
  |none=>exact .inl rfl
  |some k=>exact .inr (fun e=>hv (by rw [hv',e]))
theorem WS.app {w2 wr w6:World} {wb:Nat} {n:Nd} {A:Ads} {v v':Value} {L:List Mg} {o:Obj} (h:WS w2 wr wb n A v L) (m:Mg)
 (hown:w6.ownsRow w2.heap.size 37 7 v' (L.length+1) (GR.flat encM L++encM m)) (hg:(wr.alloc o).grownBy w6 v.ownBlock):
 w6.heap[wb]?=some (.cells (wkc n A v) 45 (0,0))∧WS w2 (w6.setCell ⟨wb,9,none⟩ v') wb n A v' (L++[m]):=by
 have hvb:∀k,v.ownBlock=some k→w2.heap.size≤k:=fun k hk=>(h.own.lt k hk).1
 have hlt:=h.lt
 have hsz:=h.keep.size
 have hblk6:w6.heap[wb]?=some (.cells (wkc n A v) 45 (0,0)):=by
  rw [hg.block wb (by simp;omega) (fun e=>by have:=hvb wb e.symm;omega),Below.heap_alloc _ _ _ (by omega)]
  exact h.blk
 have hne:∀k,v'.ownBlock=some k→k≠wb:=fun k hk=>by have:=(hown.lt k hk).1;omega
 refine⟨hblk6,?_,?_,?_,hlt⟩
 ·refine⟨hg.os.trans h.keep.os,hg.tape.trans h.keep.tape,hg.output.trans h.keep.output,?_,fun k hk hkn=>?_⟩
  ·have:=hg.size
   simp[World.setCell] at this ⊢
   omega
  ·have hkn':k≠wb:=by simpa using hkn
   rw [Below.heap_setCell _ _ _ _ hkn',hg.block k (by simp;omega) (fun e=>by have:=hvb k e.symm;omega),Below.heap_alloc _ _ _ (by omega)]
   exact h.keep.block k hk hkn
 ·exact blk_setO hblk6 9 v'
 ·rw [List.length_append,flat_snoc]
  refine hown.kept (row:=some wb) ⟨rfl,rfl,rfl,by simp[World.setCell],fun k _ hk=>Below.heap_setCell _ _ _ _ (fun e=>hk (by rw [e]))⟩ ?_
  cases hv:v'.ownBlock with
  |none=>exact .inl rfl
  |some k=>exact .inr (fun e=>hne k hv (by injection e))
theorem say_keeps {w W w6:World} {wb:Nat} {v v6:Value} {o:Obj} (hb:Below w.heap.size w W) (hg:(W.alloc o).drew.grownBy w6 v.ownBlock):KeepsL (wb::v.ownBlock.toList) w (w6.setCell ⟨wb,9,none⟩ v6):=by
 have hs:=hb.size
 have hs6:=hg.size
 refine⟨hg.os.trans hb.os,hg.tape.trans hb.tape,hg.output.trans hb.output,?_,fun k hk hkn=>?_⟩
 ·simp[World.setCell] at hs6 ⊢
  omega
 ·have h1:k≠wb:=fun e=>hkn (by rw [e];exact List.mem_cons_self)
  have h2:v.ownBlock≠some k:=fun e=>hkn (by rw [e];simp)
  have h3:(W.alloc o).drew.heap[k]?=W.heap[k]?:=Below.heap_alloc _ _ _ (by omega)
  rw [Below.heap_setCell _ _ _ _ h1,hg.block k (by simp;omega) (fun e=>h2 e.symm),h3]
  exact hb.block k hk
theorem drew_below (w:World):Below w.heap.size w w.drew:=⟨rfl,rfl,rfl,Nat.le_refl _,fun _ _=>rfl⟩
theorem implSay (w2 w:World) (wb:Nat) (n:Nd) (A:Ads) (v:Value) (L:List Mg) (m:Mg) (hk:m.k.size≤1048600) (hL:L.length≤2097200) (h:WS w2 w wb n A v L):
 Calls Tryz.prog 37 #[.pointer (some ⟨wb,0,none⟩),mgv m] w fun e w'=>e= .returned (.tuple #[])∧∃v',WS w2 w' wb n A v' (L++[m])∧KeepsL (wb::v.ownBlock.toList) w w':=by
 obtain⟨i0,hi,hz0,hz1,hz2⟩:=info_parts infoMsg
 have HBX:=hide (heap_alloc_new w (.cells #[.int .i64 m.K,.int .i64 m.F,.int .i64 m.T,.int .i64 m.I,.int .i64 m.L,.string m.k,.int .i64 m.N] 37))
 have HAP:Hid (∀{wr w6:World} {v':Value} {o:Obj},WS w2 wr wb n A v L→w6.ownsRow w2.heap.size 37 7 v' (L.length+1) (GR.flat encM L++encM m)→(wr.alloc o).grownBy w6 v.ownBlock→w6.heap[wb]?=some (.cells (wkc n A v) 45 (0,0))∧WS w2 (w6.setCell ⟨wb,9,none⟩ v') wb n A v' (L++[m])):=fun h1 h2 h3=>h1.app m h2 h3
 have HV:Hid (∀k,v.ownBlock=some k→k < w.heap.size):=fun k e=>(h.own.lt k e).2
 have HS:=hide h
 have hsz:=h.keep.size
 have hwb:=h.lt
 clear h
 obtain⟨va,vc,hv,_⟩:=GR.own_at (enc:=encM) (sz:=7) (l:=L) encM_length (unhide HS).own
 subst hv
 obtain⟨mK,mF,mT,mI,mL,mk,mN⟩:=m
 dsimp only at hk HBX
 go_enter Tryz.func37,Tryz.ntmps37
 go_wp2_with fail
 refine(clone mk _ (by omega)).mono ?_
 rintro e w1 ⟨rfl,hb1⟩
 have HX1:=hide (obj_step (unhide HBX) hb1)
 have HS1:=hide (((unhide HS).step (below_one w _)).step hb1)
 have hf5:=obj_free (unhide HX1) 5
 obtain⟨x0,x1,x2,x3,x4,x5,x6⟩:=sevenC (unhide HX1)
 go_upto_region 2 with fail
 refine wp_at (fun W hW=>?_)
 have HXW:Hid (W.heap[w.heap.size]?=some (.cells #[.int .i64 mK,.int .i64 mF,.int .i64 mT,.int .i64 mI,.int .i64 mL,.string mk,.int .i64 mN] 37 (0,0))):=by rw [hW];exact blk_setO (unhide HX1) 5 (.string mk)
 have HSW:Hid (WS w2 W wb n A (.slice va L.length vc) L):=by rw [hW];exact(unhide HS1).set hsz (fun e=>by have:=unhide HV _ e;omega)
 have HKW:Hid (Below w.heap.size w W):=by rw [hW];exact((below_one w _).trans (hb1.mono (by simp))).trans ((KeepsL.set (g:=w.heap.size) (i:=5) (.string mk)).below (fun x hx=>by have:x=w.heap.size:=(by simpa using hx);omega) (by have:=obj_lt (unhide HX1);omega))
 have hwW:w.heap.size < W.heap.size:=obj_lt (unhide HXW)
 clear hW hb1 x0 x1 x2 x3 x4 x5 x6 hf5 HX1 HS1 HBX HS
 have hne:wb≠w.heap.size:=by omega
 have hneW:wb≠W.heap.size:=by omega
 have hneV:w.heap.size≠W.heap.size:=by omega
 have hwbl:wb < W.heap.size:=by omega
 obtain⟨x0,x1,x2,x3,x4,x5,x6⟩:=sevenC (unhide HXW)
 obtain⟨c0,c1,c2,c3,c4,c5,c6,c7,c8,c9⟩:=tenC (unhide HSW).blk
 clear c0 c1 c2 c3 c4 c5 c6 c7 c8
 have HOW:=hide (GR.own_below (unhide HSW).own (drew_below W))
 have HSD:=hide ((unhide HSW).step (drew_below W))
 go_region_law
  (((refine step_append_ownM _ rfl (.tmp 12) (.tmp 14) 32 rfl w2.heap.size 37 i0 (.agg #[.int .i64 0,.int .i64 0,.int .i64 0,.int .i64 0,.int .i64 0,.string ByteArray.empty,.int .i64 0]) 7 64 Tryz.underlying32 hi hz0 hz1 hz2 rfl (by decide) (.slice va L.length vc) L.length (GR.flat encM L) (by simp[Act.eval]) ((unhide HOW).alloc _) ⟨W.heap.size,0,none⟩ 1 1 (encM ⟨mK,mF,mT,mI,mL,mk,mN⟩) (by simp[Act.eval]) rfl (World.news_of_block (heap_alloc_new W.drew _)) (encM_one _) (by unfold maxLen;omega) (by omega) (by simp;omega) ?_);(intro v6 w6 hown6 hgr6 hnil6);(obtain⟨va6,vc6,hv6,_⟩:=GR.own_at (enc:=encM) (sz:=7) (l:=L++[⟨mK,mF,mT,mI,mL,mk,mN⟩]) encM_length (by rw [List.length_append,flat_snoc];exact hown6));(rw [List.length_append] at hv6);(have hv7:v6= .slice va6 (L.length+1) vc6:=hv6);(subst hv7);(clear hv6);(obtain⟨hb6,hS6⟩:=unhide HAP (unhide HSD) hown6 hgr6);(have HS6:=hide hS6);(have HK6:=hide (say_keeps (wb:=wb) (v6:= .slice va6 (L.length+1) vc6) (unhide HKW) hgr6));(have hX6:w6.heap[w.heap.size]?=some (.cells #[.int .i64 mK,.int .i64 mF,.int .i64 mT,.int .i64 mI,.int .i64 mL,.string mk,.int .i64 mN] 37 (0,0)):=by rw [hgr6.block w.heap.size (by simp;omega) (fun e=>by have:=unhide HV _ e.symm;omega)];first|exact obj_step (unhide HXW) (below_one W _).drew|exact obj_step (unhide HXW) (below_one W _));(obtain⟨y0,y1,y2,y3,y4,y5,y6⟩:=sevenC hX6);(obtain⟨k0,k1,k2,k3,k4,k5,k6,k7,k8,k9⟩:=tenC hb6);(have kf:=obj_free hb6 9);(clear k0 k1 k2 k3 k4 k5 k6 k7 k8 hown6 hgr6 hnil6 hb6 hS6 hX6)))
 all_goals
  go_wp2_with fail
  exact bodyPost_end (v:= .tuple #[]) (by simp[results,Tryz.results37,go_sem]) rfl ⟨rfl,_,unhide HS6,unhide HK6⟩
namespace Mth
def lastI {α:Type} (key:α→Int) (y0:Int) (l:List α):Int:=(l.getLast?.map key).getD y0
theorem lastI_snoc {α:Type} (key:α→Int) (y0:Int) (l:List α) (k:Nat) (h:k < l.length):lastI key y0 (l.take (k+1))=key l[k]:=by
 unfold lastI
 rw [List.take_succ_eq_append_getElem h,List.getLast?_append]
 simp
theorem chk_last {α:Type} (p:α→Bool) (key:α→Int) (y0:Int) (hp:∀x,p x=true→y0 < key x) (l:List α) (k:Nat) (h:k < l.length):
 chk p (fun s t=>ltB (key s) (key t)) (l.take (k+1))=(chk p (fun s t=>ltB (key s) (key t)) (l.take k)&&(p l[k]&&decide (lastI key y0 (l.take k) < key l[k]))):=by
 rw [List.take_succ_eq_append_getElem h,chk_snoc]
 unfold lastI
 cases hg:(l.take k).getLast? with
 |none=>
  cases hx:p l[k] with
  |false=>simp
  |true=>simp[hp _ hx]
 |some y=>simp[ltB]
theorem chk_mem {α:Type} {p:α→Bool} {r:α→α→Bool} {l:List α} (h:chk p r l=true):∀x∈l,p x=true:=by
 induction l with
 |nil=>intro x hx;simp at hx
 |cons y l ih=>
  rw [chk_cons] at h
  simp only[Bool.and_eq_true] at h
  intro x hx
  rcases List.mem_cons.1 hx with rfl|hx
  ·exact h.1.1
  ·exact ih h.2 x hx
theorem chk_lastI {α:Type} {p:α→Bool} {r:α→α→Bool} {key:α→Int} {y0:Int} {l:List α} (hp:∀x,p x=true→y0 < key x) (h:chk p r l=true):y0≤lastI key y0 l:=by
 unfold lastI
 cases hg:l.getLast? with
 |none=>simp
 |some y=>
  have:=hp y (chk_mem h y (List.mem_of_getLast? hg))
  simp
  omega
theorem chk_iff {α:Type} {p:α→Bool} {r:α→α→Bool} (ht:∀a b c,r a b=true→r b c=true→r a c=true) {l:List α}:chk p r l=true↔(∀x∈l,p x=true)∧l.Pairwise (fun a b=>r a b=true):=by
 induction l with
 |nil=>simp[chk]
 |cons x l ih=>
  rw [chk_cons]
  simp only[Bool.and_eq_true,ih,List.pairwise_cons,List.mem_cons,forall_eq_or_imp]
  constructor
  ·rintro⟨⟨h1,h2⟩,h3,h4⟩
   refine⟨⟨h1,h3⟩,?_,h4⟩
   cases l with
   |nil=>intro a ha;simp at ha
   |cons y l=>
    simp only[List.head?_cons] at h2
    intro a ha
    rcases List.mem_cons.1 ha with rfl|ha
    ·exact h2
    ·exact ht x y a h2 ((List.pairwise_cons.1 h4).1 a ha)
  ·rintro⟨⟨h1,h3⟩,h2,h4⟩
   refine⟨⟨h1,?_⟩,h3,h4⟩
   cases l with
   |nil=>simp
   |cons y l=>exact h2 y (by simp)
theorem chk_and {α:Type} {p q:α→Bool} {r:α→α→Bool} {l:List α}:chk (fun x=>p x&&q x) r l=(chk p r l&&l.all q):=by
 induction l with
 |nil=>simp[chk]
 |cons x l ih=>
  rw [chk_cons,ih,chk_cons,List.all_cons]
  generalize p x=a
  generalize q x=b
  generalize chk p r l=d
  generalize l.all q=e
  cases a<;>cases b<;>cases d<;>cases e<;>simp
theorem asc_le:∀(B A:List Int),A.Pairwise (· < ·)→B.Pairwise (· < ·)→(∀x∈A,x∈B)→A.length≤B.length:=by
 intro B
 induction B with
 |nil=>
  intro A _ _ hs
  cases A with
  |nil=>simp
  |cons a A=>exact absurd (hs a (by simp)) (by simp)
 |cons b B ih=>
  intro A hA hB hs
  cases A with
  |nil=>simp
  |cons a A=>
   have hA':=List.pairwise_cons.1 hA
   have hB':=List.pairwise_cons.1 hB
   by_cases hab:a=b
   ·subst hab
    have:=ih A hA'.2 hB'.2 (fun x hx=>by
     rcases List.mem_cons.1 (hs x (List.mem_cons_of_mem _ hx)) with h|h
     ·have:=hA'.1 x hx;omega
     ·exact h)
    simp;omega
   ·have haB:a∈B:=by
     rcases List.mem_cons.1 (hs a (by simp)) with h|h
     ·exact absurd h hab
     ·exact h
    have hba:=hB'.1 a haB
    have:=ih (a::A) hA hB'.2 (fun x hx=>by
     rcases List.mem_cons.1 (hs x hx) with h|h
     ·rcases List.mem_cons.1 hx with h2|h2
      ·omega
      ·have:=hA'.1 x h2;omega
     ·exact h)
    simp at this ⊢;omega
theorem asc_eq:∀(B A:List Int),A.Pairwise (· < ·)→B.Pairwise (· < ·)→(∀x∈A,x∈B)→B.length≤A.length→A=B:=by
 intro B
 induction B with
 |nil=>
  intro A _ _ hs _
  cases A with
  |nil=>rfl
  |cons a A=>exact absurd (hs a (by simp)) (by simp)
 |cons b B ih=>
  intro A hA hB hs hl
  cases A with
  |nil=>simp at hl
  |cons a A=>
   have hA':=List.pairwise_cons.1 hA
   have hB':=List.pairwise_cons.1 hB
   by_cases hab:a=b
   ·subst hab
    rw [ih A hA'.2 hB'.2 (fun x hx=>by
     rcases List.mem_cons.1 (hs x (List.mem_cons_of_mem _ hx)) with h|h
     ·have:=hA'.1 x hx;omega
     ·exact h) (by simpa using hl)]
   ·have haB:a∈B:=by
     rcases List.mem_cons.1 (hs a (by simp)) with h|h
     ·exact absurd h hab
     ·exact h
    have hba:=hB'.1 a haB
    have:=asc_le B (a::A) hA hB'.2 (fun x hx=>by
     rcases List.mem_cons.1 (hs x hx) with h|h
     ·rcases List.mem_cons.1 hx with h2|h2
      ·omega
      ·have:=hA'.1 x h2;omega
     ·exact h)
    simp at this hl;omega
def nbrs (n:Nd):List Int:=n.kids++(if n.par= -1 then[] else[n.par])
def srt (l:List Int):List Int:=l.mergeSort fun x y=>decide (x≤y)
theorem srt_length (l:List Int):(srt l).length=l.length:=List.length_mergeSort l
theorem srt_mem (l:List Int) (x:Int):x∈srt l↔x∈l:=(List.mergeSort_perm l _).mem_iff
theorem srt_asc {l:List Int} (h:l.Nodup):(srt l).Pairwise (· < ·):=by
 have h1:(srt l).Pairwise (fun x y=>decide (x≤y)=true):=List.pairwise_mergeSort (le:=fun x y:Int=>decide (x≤y)) (fun a b c h1 h2=>by simp at *;omega) (fun a b=>by simp;omega) l
 have h2:(srt l).Nodup:=(List.mergeSort_perm l _).symm.nodup h
 exact(h1.and h2).imp (fun {a b} h=>by have:=of_decide_eq_true h.1;have:=h.2;omega)
theorem has_iff (l:List Int) (x:Int):hasB l x=true↔x∈l:=by
 unfold hasB
 rw [List.any_eq_true]
 constructor
 ·rintro⟨y,hy,h⟩
  have:=of_decide_eq_true h
  subst this
  exact hy
 ·intro h;exact⟨x,h,by simp⟩
theorem ltB_trans (a b c:Int) (h1:ltB a b=true) (h2:ltB b c=true):ltB a c=true:=by
 unfold ltB at *
 simp at *
 omega
theorem place_kids {n:Nd} (h:placeB n=true):(∀x∈n.kids,kidB n.id n.par x=true)∧n.kids.Pairwise (· < ·)∧ -1≤n.par:=by
 unfold placeB at h
 simp only[Bool.and_eq_true] at h
 obtain⟨h1,h2⟩:=(chk_iff (r:=ltB) ltB_trans).1 h.2
 exact⟨h1,h2.imp (fun {a b} h=>of_decide_eq_true h),(of_decide_eq_true h.1.1.1.2).1⟩
theorem nbrs_nodup {n:Nd} (h:placeB n=true):(nbrs n).Nodup:=by
 obtain⟨h1,h2,_⟩:=place_kids h
 have h3:n.kids.Nodup:=h2.imp (fun {a b} h=>by omega)
 unfold nbrs
 split
 ·simpa using h3
 ·rw [List.nodup_append]
  refine⟨h3,by simp,?_⟩
  intro a ha b hb
  have hb':b=n.par:=by simpa using hb
  have:=h1 a ha
  unfold kidB at this
  simp only[Bool.and_eq_true,decide_eq_true_eq] at this
  rw [hb']
  exact this.2
theorem near_iff {n:Nd} (h:placeB n=true) (x:Int):nearB n x=true↔x∈nbrs n:=by
 obtain⟨h1,_,h3⟩:=place_kids h
 unfold nearB nbrs
 rw [Bool.or_eq_true,has_iff,List.mem_append]
 constructor
 ·rintro(h|h)
  ·simp only[Bool.and_eq_true,decide_eq_true_eq] at h
   right
   rw [if_neg (by omega)]
   simp[h.2]
  ·exact .inl h
 ·rintro(h|h)
  ·exact .inr h
  ·left
   split at h
   ·simp at h
   ·have:x=n.par:=by simpa using h
    simp only[Bool.and_eq_true,decide_eq_true_eq]
    omega
theorem nbrs_length {n:Nd} (h:placeB n=true):((nbrs n).length:Int)=n.kids.length+(if 0≤n.par then 1 else 0):=by
 obtain⟨_,_,h3⟩:=place_kids h
 unfold nbrs
 by_cases hp:n.par= -1
 ·rw [if_pos hp,if_neg (by omega)];simp
 ·rw [if_neg hp,if_pos (by omega)];simp
theorem told_eq {n:Nd} (hp:placeB n=true):toldB n=(decide (n.seen.map (·.f)=srt (nbrs n))&&n.seen.all snB):=by
 have hnd:=nbrs_nodup hp
 have hsr:=srt_asc hnd
 unfold toldB
 rw [chk_and,←nbrs_length hp,←Bool.and_assoc]
 congr 1
 rw [Bool.eq_iff_iff,Bool.and_eq_true,decide_eq_true_iff,decide_eq_true_iff,chk_iff (fun a b c h1 h2=>ltB_trans a.f b.f c.f h1 h2)]
 constructor
 ·rintro⟨h1,h2,h3⟩
  refine asc_eq _ _ ?_ hsr ?_ ?_
  ·rw [List.pairwise_map]
   exact h3.imp (fun {a b} h=>of_decide_eq_true h)
  ·intro x hx
   obtain⟨s,hs,rfl⟩:=List.mem_map.1 hx
   rw [srt_mem]
   exact(near_iff hp _).1 (h2 s hs)
  ·rw [srt_length,List.length_map]
   omega
 ·intro h
  refine⟨?_,?_,?_⟩
  ·have:=congrArg List.length h
   rw [srt_length,List.length_map] at this
   omega
  ·intro s hs
   rw [near_iff hp,←srt_mem,←h]
   exact List.mem_map.2 ⟨s,hs,rfl⟩
  ·rw [←h,List.pairwise_map] at hsr
   exact hsr.imp (fun {a b} h=>decide_eq_true h)
end Mth
end Go.Proofs.YtdlokncalhopoaaGreat
