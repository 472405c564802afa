/- Parts. -/
import Derived.Test.YtohmklmkjmlpjaaGreatDoorRk28
import Derived.Test.YtohmklmkjmlpjaaGreatDoorRk27
import Derived.Test.YtohmklmkjmlpjaaGreatDoorRk23
import Derived.Test.YtohmklmkjmlpjaaGreatDoorRk11
namespace Go.Proofs.YtohmklmkjmlpjaaGreatDoor
open Go.Proofs.Tryz
open Go.RowKit
open Mth
theorem WK.setPu {w0 w w':World} {wb:Nat} {n:Nd} {A:bV} {G:aY} {c:Nat->Nat} {v:Value} {L:List Mg} {a:Option Addr} {cp g:Nat} {l:List Pu} (h:WK w0 w wb n A G c v L) (hb:aI w w') (hw:GR.W gB 4 w' a g l) (hg:∀x∈fp g l,w.heap.size<=x):
 WK w0 (w'.setCell ⟨wb,4,none⟩ (.slice a l.length cp)) wb (setPu n l) ⟨A.k,a,A.o,A.s,A.r,A.ck,cp,A.co,A.cs,A.cr⟩ ⟨G.k,g,G.o,G.s,G.r,G.i⟩ (newC w.heap.size 2 c) v L:=by
 have hwb:=aA h.blk;have h1:=(h.recol (c':=newC w.heap.size 2 c) (λx hx=>fq hx)).step hb;have hk:KC (newC w.heap.size 2 c) 8 w' (w'.setCell ⟨wb,4,none⟩ (.slice a l.length cp)):=KC.set h1.cw;have h2:=h1.no.kc hk Aaa;have hcp:∀x∈fp g l,newC w.heap.size 2 c x=2:=λx hx=>bq (hg x hx)
 refine⟨hk.below h1.keep h1.no.lo Aaa h1.keep.size,?_,⟨h2.k,hk.w hw hcp (show(2:Nat)≠8 by omega),h2.o,h2.s,h2.r,h2.lo,h2.ck,hcp,h2.co,h2.c4,h2.ci,h2.cr,h2.ni⟩,hk.own h1.m h1.cm Aaa,h1.cm,h1.cw⟩;exact aR h1.blk 4 (.slice a l.length cp)
end Go.Proofs.YtohmklmkjmlpjaaGreatDoor

namespace Go.Proofs.YtohmklmkjmlpjaaGreatDoor
open Go.Proofs.Tryz
set_option maxHeartbeats 4000000
set_option maxRecDepth 100000
open Go.RowKit
open Mth
variable {n:Nd} {w w':World} {s:ByteArray} {o:gQ} {p:Prop} {e:Ending}
theorem WK.app {w0 w6:World} {wb:Nat} {A:bV} {G:aY} {c:Nat->Nat} {v v':Value} {L:List Mg} (h:WK w0 w wb n A G c v L) (m:Mg) (hown:w6.ownsRow w0.heap.size 98 7 v' (L.length+1) (GR.flat lu L++lu m)) (hg:w.grownBy w6 v.ownBlock) (hv:∀x,v'.ownBlock=some x->v.ownBlock=some x\/w.heap.size<=x):
 w6.heap[wb]?=some (.cells (Wu n A v) 192 (0,0))/\WK w0 (w6.setCell ⟨wb,9,none⟩ v') wb n A G (newC w.heap.size 7 c) v' (L++[m]):=by
 have h1:=h.recol (c':=newC w.heap.size 7 c) (λx hx=>fq hx);have hk1:KC (newC w.heap.size 7 c) 7 w w6:=KC.grown hg h1.cm;have hblk:=hk1.obj h1.blk (by rw [h1.cw];omega);have hno:=h1.no.kc hk1 Aaa;have hkeep:=hk1.below h1.keep h1.no.lo Aaa h1.keep.size;have hk2:KC (newC w.heap.size 7 c) 8 w6 (w6.setCell ⟨wb,9,none⟩ v'):=KC.set h1.cw
 have hcm:∀x,v'.ownBlock=some x->newC w.heap.size 7 c x=7:=λx hx=>by
  rcases hv x hx with hx'|hx'
  .exact h1.cm x hx'
  .exact bq hx'
 refine⟨hblk,hk2.below hkeep h1.no.lo Aaa hkeep.size,aR hblk 9 v',hno.kc hk2 Aaa,?_,hcm,h1.cw⟩;rw [List.length_append,iW];exact hk2.own hown hcm Aaa
theorem Wt (w0 w:World) (wb:Nat) (n:Nd) (A:bV) (G:aY) (c:Nat->Nat) (v:Value) (L:List Mg) (m:Mg) (hk:m.k.size<=1048600) (hL:L.length<=2097200) (h:WK w0 w wb n A G c v L):
 Calls prog 215 #[.pointer (some ⟨wb,0,none⟩),mY m] w λe w'=>e= .returned (.tuple #[])/\∃c' v',WK w0 w' wb n A G c' v' (L++[m]):=by
 obtain⟨i0,hi,hz0,hz1,hz2⟩:=info_parts VO;have HS:=Hq h;clear h;obtain⟨va,vc,hv,_⟩:=GR.own_at (enc:=lu) (sz:=7) (l:=L) qO HS.m;subst hv;obtain⟨mK,mF,mT,mI,mL,mk,mN⟩:=m;dsimp only at hk;have HX0:=Hq (heap_alloc_new w (.cells (bX mK mF mT mI mL mk mN) 98));go_in
 go_wp2_with fail;refine(clone mk _ Aaa).mono ?_;rintro e w1 ⟨rfl,hb1⟩;have AY:=Hq (au HX0 hb1);have HB1:=Hq ((ay w _).trans (hb1.mono Aac));clear hb1 HX0;have Xx:=aj AY 5;obtain⟨x0,x1,x2,x3,x4,x5,x6⟩:=jG AY;go_upto_region 2 with fail;refine wp_at (λW hW=>?_);have HXW:Hid (W.heap[w.heap.size]?=some (.cells (bX mK mF mT mI mL mk mN) 98 (0,0))):=by rw [hW];exact aR AY 5 (.string mk)
 have iR:Hid (aI w W):=by rw [hW];exact HB1.setCell (p:=⟨w.heap.size,5,none⟩) (Nat.le_refl _) _
 clear hW HB1 AY Xx x0 x1 x2 x3 x4 x5 x6;have HSW:=Hq (HS.step iR);have hwl:=aA HS.blk;have hne:wb≠w.heap.size:=Aaa
 have hlW:=aA HXW;obtain⟨x0,x1,x2,x3,x4,x5,x6⟩:=jG HXW;obtain⟨c0,c1,c2,c3,c4,c5,c6,c7,c8,c9⟩:=jH HSW.blk;have y9:=cell_regrown c9;have z0:=cell_regrown x0;have z1:=cell_regrown x1;have z2:=cell_regrown x2;have z3:=cell_regrown x3;have z4:=cell_regrown x4;have z5:=cell_regrown x5;have z6:=cell_regrown x6;clear x0 x1 x2 x3 x4 x5 x6 c0 c1 c2 c3 c4 c5 c6 c7 c8 c9;refine mG Aab ?_;show vR _ _ _ _ 11 (Array.replicate 11 false) _ _
 open atj in exact aar
set_option maxHeartbeats 2000000
open Go.RowKit Go.Maps Go.Sort
theorem al4 (m:Nat):AnyZI.SortsIn prog Tryz.sortedL_ren Fence.wide m:=
 ⟨λblk off cap ss W hH hblk hsz=>callsIn_wide.2 (AnyM.slices_Sort_int Tryz.sortL blk off cap ss W hH hblk hsz),
  λp cap W=>callsIn_wide.2 (AnyM.slices_Sort_int_none Tryz.sortL p cap W)⟩
theorem afh (mb:Option Nat) (W:World):Calls prog 269 #[.map mb] W λe w'=>e= .returned (.func (.func 291) #[] #[.pointer (some ⟨W.heap.size,0,none⟩)])/\w'=W.alloc (.cells #[.map mb] 291):=
 callsIn_wide.1 (AnyZI.keys_in Tryz.keysL Fence.wide 5 trivial rfl mb W)
theorem adp {l ss:List Int} (hp:l.Pairwise (· < ·)) (h:ss.Perm l):ss.mergeSort (λx y=>decide (x<=y))=l:=by
 have h1:ss.mergeSort leI=l.mergeSort leI:=mergeSort_of_perm_i h;refine h1.trans (List.mergeSort_of_pairwise ?_);exact hp.imp (λ{a b} h=>by simp only[leI,decide_eq_true_eq];omega)
theorem YF (B mb n:Nat) (l:List Int) (W:World) (hl:l.length<=1000) (hp:l.Pairwise (· < ·)) (hB:W.heap[B]?=some (.cells #[.map (some mb)] 291 (0,0))) (hs:fH W mb n l):
 Calls prog 268 #[.func (.func 291) #[] #[.pointer (some ⟨B,0,none⟩)]] W λe w'=>∃v,e= .returned v/\w'.ownsRow W.heap.size 3 1 v l.length (GR.flat bf l)/\aI W w':=by
 obtain⟨D,hown,ha⟩:=hs;have hk:=fH.keys hown ha (hp.imp (λh=>Aaa));have hsz:Maps.size D=l.length:=by rw [JR hown,hk.length_eq]
 have hcell:W.cell? ⟨B,0,none⟩=some (.map (some mb)):=cell_of_row W B 0 _ _ (0,0) hB
 have hseq:SeqGives Fence.wide 2 prog 291 #[.pointer (some ⟨B,0,none⟩)] encZ (λss=>ss.Perm (intKeys D)) (Maps.size D) W:=
  AnyZI.keys_gives (ρ:=Tryz.keysL_ren) {Tryz.keysL with} Fence.wide _ trivial rfl Aaa B mb n D _ (aA hB) hcell hown
 have cS:=AnyZI.sorted_in Tryz.sortedL Fence.wide 5 trivial trivial trivial trivial rfl Aaa (al4 _) (enters_of func233 Aab rfl) 291 #[.pointer (some ⟨B,0,none⟩)] trivial (enters_of func291 Aab rfl) _ _ (by rw [hsz];unfold maxLen;omega) (by rw [hsz];omega) _ hseq;change CallsIn _ _ prog 268 _ _ _ at cS
 refine(callsIn_wide.1 cS).mono ?_;rintro e w' ⟨v,ss,rfl,hS,hrow,_,hb⟩;have hperm:ss.Perm l:=hS.trans hk.symm;rw [adp hp hperm,hperm.length_eq,<-Ez] at hrow;exact⟨v,rfl,hrow,hb⟩
theorem Yy (sb mb n:Nat) (f low:Int) (l:List Int) (w:World) (hl:l.length<=1000) (hp:l.Pairwise (· < ·)) (hb:kQ w sb mb low) (hs:fH w mb n l):
 Calls prog 249 #[.pointer (some ⟨sb,0,none⟩),.int .i64 f] w λe w'=>∃v,e= .returned (.agg #[.int .i64 f,.int .i64 low,v])/\w'.ownsRow w.heap.size 3 1 v l.length (GR.flat bf l)/\aI w w':=by
 have hsl:=aA hb;have HB:=Hq hb;have HS:=Hq hs;have RI:=Hq afh;have Z4:=Hq (λB W (h1:W.heap[B]?=_) (h2:fH W mb n l)=>YF B mb n l W hl hp h1 h2);have hb1:=au hb (ay w (.cells #[.int .i64 0,.int .i64 0,.slice none 0 0] 110));obtain⟨⟨m0,m1⟩,_⟩:=mD hb1;clear hb hs hb1;go_in
 go_upto_region 1 with fail;have y0:=cell_regrown m0;have y1:=cell_regrown m1;clear m0 m1;refine dD 12 Aab ?_;show fC _ _ _ _ _ 13 (Array.replicate 13 false) _ _
 refine tk [0,1,2,3,4,5,6,7,8] ?_;iterate 9 (refine uS (λK hK=>?_);go_simp;refine hK _ ?_;clear hK K)
 refine jK ?_;clear y0 y1;refine dV 9 rfl Aab Aad (λx hx=>?_);go_simp;have HX:=Hq hx;clear hx;refine(RI (some mb) x).mono ?_;rintro e y ⟨rfl,rfl⟩;refine⟨ay x _,?_⟩;refine dV 10 rfl Aab Aad (λx2 hx2=>?_);go_simp;have Zk:=Hq hx2;have h1:x2.heap[x.heap.size]?=some (.cells #[.map (some mb)] 291 (0,0)):=au (heap_alloc_new x _) hx2;have HG:=Hq (Ge.trans (Ge.trans HX (ay x _)) hx2);have h2:fH x2 mb n l:=HS.kept ((HG.block mb (by have:=HS.lt;simp;omega)).trans (Below.heap_alloc _ _ _ HS.lt));have HCS:=Hq (Z4 x.heap.size x2 h1 h2);clear hx2 h1 h2 RI Z4 Zk;refine HCS.mono ?_;rintro e z ⟨v,rfl,hrow,hbz⟩;refine⟨hbz,?_⟩;obtain⟨av,cv,rfl,_⟩:=GR.own_at (enc:=bf) (sz:=1) aX hrow;have HRW:=Hq hrow;have HZ:=Hq (Ge.trans HG hbz);clear hrow hbz HCS;refine tk [11] ?_;(refine uS (λK hK=>?_);go_simp;refine hK _ ?_;clear hK K)
 refine jK ?_;refine bH Aab (λx3 hx3=>?_);have Ea:=Hq (Ge.trans HZ hx3);have HR3:=Hq (GR.own_below HRW hx3);have e3:x3.heap[w.heap.size]?=some (.cells #[.int .i64 0,.int .i64 0,.slice none 0 0] 110 (0,0)):=au (heap_alloc_new w _) Ea;have f0:=aj e3 0;have f1:=aj e3 1;have f2:=aj e3 2;have hw3:=aA e3;obtain⟨d0,d1,d2⟩:=three e3;have E3:=Hq e3;clear e3 hx3 HX HZ HRW;refine aH 12 rfl Aab Aad ?_;go_simp;refine wpAny_done Aab ?_;clear d0 d1 d2 f0 f1 f2;go_wp2_with fail;refine aW (λW' hW'=>?_)
 have e4:W'.heap[w.heap.size]?=some (.cells #[.int .i64 f,.int .i64 low,.slice av l.length cv] 110 (0,0)):=by
  rw [hW'];exact GR.setW_blk [.int .i64 f,.int .i64 low,.slice av l.length cv] (o:=0) (xs:=[.int .i64 0,.int .i64 0,.slice none 0 0]) E3
 have hsw:w.heap.size < x2.heap.size:=by have:=HG.size;simp at this;omega
 have hg:x3.grownBy W' (some w.heap.size):=by
  rw [hW'];exact⟨rfl,rfl,rfl,Aar,λk _ hk=>GR.setW_other (g':=k) (λe=>hk Aao) [.int .i64 f,.int .i64 low,.slice av l.length cv] (o:=0)⟩
 have hne:∀k,(Value.slice av l.length cv).ownBlock=some k->k≠w.heap.size:=λk hk=>by have:=(HR3.lt k hk).1;omega
 have hrow:W'.ownsRow x2.heap.size 3 1 (.slice av l.length cv) l.length (GR.flat bf l):=by
  refine HR3.kept (row:=some w.heap.size) hg ?_;cases hv:(Value.slice av l.length cv).ownBlock with
  |none=>exact .inl rfl
  |some k=>exact .inr (λe=>hne k hv (by injection e))
 have hbel:aI w W':=by
  rw [hW'];exact GR.setW_below (Nat.le_refl _) [.int .i64 f,.int .i64 low,.slice av l.length cv] (o:=0) ((ay w _).trans (Ea.mono Aac))
 have HRW:=Hq (ownsRow_base_a hrow (show w.heap.size<=x2.heap.size by omega));have iR:=Hq hbel;obtain⟨d0,d1,d2⟩:=three e4;clear hW' e4 hg hrow hbel;exact bodyPost_ret (v:= .agg #[.int .i64 f,.int .i64 low,.slice av l.length cv]) (by simp[results,results249,go_sem,d0,d1,d2]) rfl ⟨_,rfl,HRW,iR⟩
theorem pW (hs:keyOk s.data.toList=true):s.size<=1048576:=by
 rcases Classical.em (1<=s.data.toList.length/\s.data.toList.length<=10) with h|h
 .have e:s.size=s.data.toList.length:=by rw [Array.length_toList];rfl
  omega
 .rw [keyOk_len _ h] at hs;cases hs
theorem afr (hok:dY n=true):eX n 1048576:=by
 obtain⟨h1,h2,h3,h4,h5,h6⟩:=cu hok;have hq:=jc h6;have ho:=rR h5;have hn:=vI h1;have hpl:=h1;unfold eP at hpl;simp only[Bool.and_eq_true,decide_eq_true_eq] at hpl;have htl:=h3;unfold nV at htl;rw [Bool.and_eq_true,decide_eq_true_eq] at htl;have hps:=(jT n.pu).1 h2;refine⟨Aaa,Aaa,Aaa,by split at htl<;>omega,Aaa,λx hx=>?_,λx hx=>?_,λx hx=>?_,λx hx=>?_⟩
 .have:=hps.1 x hx;unfold iD at this;simp only[Bool.and_eq_true] at this;exact pW (by first|exact this.1|exact this.1.1|exact this.1.1.1|exact this.1.1.1.1)
 .have:=ho.2.2 x hx;unfold uR at this;simp only[Bool.and_eq_true] at this;exact pW this.1.2
 .have:=Ab hok x hx;unfold uV at this;simp only[Bool.and_eq_true,decide_eq_true_eq] at this;omega
 .exact pW (jV (hq.2.2.1 x hx)).2.2.1
theorem aBW (hz:eX n 1048576):eX (Zo n o).1 1048576:=by
 cases hok:dY n
 .rw [KF hok];exact hz
 .exact afr (VW hok)
namespace Mth
def iw (n:Nd) (L:List gQ):Nd:=L.foldl (λm o=>(Zo m o).1) n
theorem JH {L:List gQ} {k:Nat} (hk:k < L.length):iw n (L.take (k+1))=(Zo (iw n (L.take k)) L[k]).1:=by
 unfold iw;rw [List.take_succ_eq_append_getElem hk,List.foldl_append];rfl
theorem ac1 {n:Nd} (h:dY n=false) (L:List gQ):iw n L=n:=by
 induction L with
 |nil=>rfl
 |cons o L ih=>
  have e:iw n (o::L)=iw (Zo n o).1 L:=rfl;rw [e,KF h];exact ih
theorem Wh {n:Nd} (h:dY n=true) (L:List gQ):dY (iw n L)=true:=by
 induction L generalizing n with
 |nil=>exact h
 |cons o L ih=>exact ih (VW h)
theorem LY {n:Nd} (h:eX n 1048576) (L:List gQ):eX (iw n L) 1048576:=by
 induction L generalizing n with
 |nil=>exact h
 |cons o L ih=>exact ih (aBW h)
theorem aDj {a:Nat} (h:Dt s a=true):cK (opC (Gj s a))=true:=by
 have hg:=(sQ h).2.2.2.2.2.1;unfold kN at hg;simp only[Bool.and_eq_true] at hg;exact hg.2
theorem JO (s:ByteArray):∀(f a:Nat),a<=s.size->(rV s f a).1.length+a<=s.size
 |0,a,h=>by simpa [rV] using h
 |f+1,a,h=>by
  unfold rV
  split
  .rename_i hs
   obtain⟨p1,_,_,p2,p3,_⟩:=sQ hs;have:=JO s f (Gw s a).toNat Aaa;rw [List.length_cons];omega
  .simpa using h
theorem Qu (s:ByteArray):∀(f a:Nat),∀o∈(rV s f a).1,cK o=true
 |0,_,o,h=>by simp[rV] at h
 |f+1,a,o,h=>by
  unfold rV at h
  split at h
  .rename_i hs
   rcases List.mem_cons.1 h with rfl|h
   .exact aDj hs
   .exact Qu s f _ o h
  .simp at h
theorem TV (h:s.toList=[]):s.size<=1048576:=by
 have e:s=ByteArray.empty:=toList_inj (h.trans (by decide+kernel));rw [e];decide
theorem VY (h:cK o=true):o.k.size<=1048576/\o.m.k.size<=1048576:=by
 have zm:lQ o.m=true->o.m.k.size<=1048576:=λh=>by
  unfold lQ at h
  exact TV (of_decide_eq_true h).2.2.2.2.2.1
 unfold cK at h;split at h
 .simp only[Bool.and_eq_true] at h;exact⟨pW h.1.1.1,zm h.2⟩
 split at h
 .simp only[Bool.and_eq_true] at h;exact⟨pW h.1.1.1,zm h.2⟩
 split at h
 .exact ajQ
 split at h
 .exact ajQ
 split at h
 .simp only[Bool.and_eq_true] at h;refine⟨TV (of_decide_eq_true h.1.1.1),?_⟩;have hm:=h.2;unfold dw at hm;simp only[Bool.and_eq_true] at hm;have h2:=hm.2;split at h2
  .simp only[Bool.and_eq_true] at h2;exact pW h2.1.1.1
  split at h2
  .simp only[Bool.and_eq_true] at h2;exact pW h2.1.1.1
  split at h2
  .simp only[Bool.and_eq_true,decide_eq_true_eq] at h2;omega
  .cases h2
 .cases h
theorem Qq (s:ByteArray):∀o∈(gM s).1,cK o=true:=by
 unfold gM;split
 .exact Qu s _ _
 .intro o h;simp at h
theorem JL (s:ByteArray):(gM s).1.length<=60000:=by
 unfold gM;split
 .rename_i h
  have:=JO s (s.size+1) 0 (Nat.zero_le _);omega
 .simp
end Mth
end Go.Proofs.YtohmklmkjmlpjaaGreatDoor
