/- Parts. -/
import Derived.Test.YtacgbldlonoaaaaGreatDoorRr27
import Derived.Test.YtacgbldlonoaaaaGreatDoorRr18
import Derived.Test.YtacgbldlonoaaaaGreatDoorRr13
namespace Go.Proofs.YtacgbldlonoaaaaGreatDoor
open Go.RowKit
open Mth
theorem WK.start {w0 y W:World} {wb:Nat} {n:Nd} {A:bH} {G:aV} {c:Nat->Nat} (hb:aX w0 y) (hN:NO y w0.heap.size n A G c) (hs:y.heap.size<=wb) (hY:aX y W) (hblk:W.heap[wb]?=some (.cells (Kz n A (.slice none 0 0)) 74 (0,0))):WK w0 W wb n A G (newC y.heap.size 8 c) (.slice none 0 0) []:=by
 have h1:=(hN.recol (c':=newC y.heap.size 8 c) hb.size (λx hx=>dW hx)).kc (k:=9) (KC.of_below hY) Aaa;exact⟨hb.trans (hY.mono hb.size),hblk,h1,World.ownsRow_nil _ _ _ _,(λx hx=>by cases hx),aS hs⟩
theorem WK.mute {w0 w:World} {wb:Nat} {n:Nd} {A:bH} {G:aV} {c:Nat->Nat} {v:Value} {L:List Mg} (h:WK w0 w wb n A G c v L):WK w0 (w.setCell ⟨wb,9,none⟩ (.slice none 0 0)) wb n A G c (.slice none 0 0) []:=by
 have hk:KC c 8 w (w.setCell ⟨wb,9,none⟩ (.slice none 0 0)):=KC.keeps (aC.set _) (λx hx=>by rw [List.mem_singleton.1 hx];exact h.cw);exact⟨h.keep.setCell (p:=⟨wb,9,none⟩) h.lo _,bC h.blk 9 _,h.no.kc hk Aaa,World.ownsRow_nil _ _ _ _,(λx hx=>by cases hx),h.cw⟩
theorem WK.setPu {w0 w w':World} {wb:Nat} {n:Nd} {A:bH} {G:aV} {c:Nat->Nat} {v:Value} {L:List Mg} {a:Option Addr} {cp g:Nat} {l:List Pu} (h:WK w0 w wb n A G c v L) (hb:aX w w') (hw:GR.W fE 4 w' a g l) (hg:∀x∈fp g l,w.heap.size<=x):
 WK w0 (w'.setCell ⟨wb,4,none⟩ (.slice a l.length cp)) wb (setPu n l) ⟨A.k,a,A.o,A.s,A.r,A.ck,cp,A.co,A.cs,A.cr⟩ ⟨G.k,g,G.o,G.s,G.r,G.i⟩ (newC w.heap.size 2 c) v L:=by
 have hwb:=aA h.blk;have h1:=(h.recol (c':=newC w.heap.size 2 c) (λx hx=>dW hx)).step hb;have hk:KC (newC w.heap.size 2 c) 8 w' (w'.setCell ⟨wb,4,none⟩ (.slice a l.length cp)):=KC.set h1.cw;have h2:=h1.no.kc hk Aaa;have hcp:∀x∈fp g l,newC w.heap.size 2 c x=2:=λx hx=>aS (hg x hx)
 refine⟨hk.below h1.keep h1.no.lo Aaa h1.keep.size,?_,⟨h2.k,hk.w hw hcp (show(2:Nat)≠8 by omega),h2.o,h2.s,h2.r,h2.lo,h2.ck,hcp,h2.co,h2.c4,h2.ci,h2.cr,h2.ni⟩,hk.own h1.m h1.cm Aaa,h1.cm,h1.cw⟩;exact bC h1.blk 4 (.slice a l.length cp)
end Go.Proofs.YtacgbldlonoaaaaGreatDoor

namespace Go.Proofs.YtacgbldlonoaaaaGreatDoor
set_option maxHeartbeats 4000000
set_option maxRecDepth 100000
open Go.RowKit
open Mth
theorem WK.app {w0 w w6:World} {wb:Nat} {n:Nd} {A:bH} {G:aV} {c:Nat->Nat} {v v':Value} {L:List Mg} (h:WK w0 w wb n A G c v L) (m:Mg)
 (hown:w6.ownsRow w0.heap.size 32 7 v' (L.length+1) (GR.flat jF L++jF m)) (hg:w.grownBy w6 v.ownBlock) (hv:∀x,v'.ownBlock=some x->v.ownBlock=some x\/w.heap.size<=x):
 w6.heap[wb]?=some (.cells (Kz n A v) 74 (0,0))/\WK w0 (w6.setCell ⟨wb,9,none⟩ v') wb n A G (newC w.heap.size 7 c) v' (L++[m]):=by
 have h1:=h.recol (c':=newC w.heap.size 7 c) (λx hx=>dW hx);have hk1:KC (newC w.heap.size 7 c) 7 w w6:=KC.grown hg h1.cm;have hblk:=hk1.obj h1.blk (by rw [h1.cw];omega);have hno:=h1.no.kc hk1 Aaa;have hkeep:=hk1.below h1.keep h1.no.lo Aaa h1.keep.size;have hk2:KC (newC w.heap.size 7 c) 8 w6 (w6.setCell ⟨wb,9,none⟩ v'):=KC.set h1.cw
 have hcm:∀x,v'.ownBlock=some x->newC w.heap.size 7 c x=7:=λx hx=>by
  rcases hv x hx with hx'|hx'
  .exact h1.cm x hx'
  .exact aS hx'
 refine⟨hblk,hk2.below hkeep h1.no.lo Aaa hkeep.size,bC hblk 9 v',hno.kc hk2 Aaa,?_,hcm,h1.cw⟩;rw [List.length_append,ig];exact hk2.own hown hcm Aaa
theorem Sv (w0 w:World) (wb:Nat) (n:Nd) (A:bH) (G:aV) (c:Nat->Nat) (v:Value) (L:List Mg) (m:Mg) (hk:m.k.size<=1048600) (hL:L.length<=2097200) (h:WK w0 w wb n A G c v L):
 Calls Tryz.prog 125 #[.pointer (some ⟨wb,0,none⟩),nS m] w λe w'=>e= .returned (.tuple #[])/\∃c' v',WK w0 w' wb n A G c' v' (L++[m]):=by
 obtain⟨i0,hi,hz0,hz1,hz2⟩:=info_parts RV;have HS:=Hq h;clear h;obtain⟨va,vc,hv,_⟩:=GR.own_at (enc:=jF) (sz:=7) (l:=L) mX HS.m;subst hv;obtain⟨mK,mF,mT,mI,mL,mk,mN⟩:=m;dsimp only at hk;have HX0:=Hq (heap_alloc_new w (.cells (bJ mK mF mT mI mL mk mN) 32));go_enter Tryz.func125,Tryz.ntmps125
 go_wp2_with fail;refine(clone mk _ Aaa).mono ?_;rintro e w1 ⟨rfl,hb1⟩;have EB:=Hq (ay HX0 hb1);have HB1:=Hq ((aj w _).trans (hb1.mono Aac));clear hb1 HX0;have TM:=au EB 5;obtain⟨x0,x1,x2,x3,x4,x5,x6⟩:=jr EB;go_upto_region 2 with fail;refine wp_at (λW hW=>?_);have HXW:Hid (W.heap[w.heap.size]?=some (.cells (bJ mK mF mT mI mL mk mN) 32 (0,0))):=by rw [hW];exact bC EB 5 (.string mk)
 have gZ:Hid (aX w W):=by rw [hW];exact HB1.setCell (p:=⟨w.heap.size,5,none⟩) (Nat.le_refl _) _
 clear hW HB1 EB TM x0 x1 x2 x3 x4 x5 x6;have HSW:=Hq (HS.step gZ);have hwl:=aA HS.blk;have hne:wb≠w.heap.size:=Aaa
 have hlW:=aA HXW;obtain⟨x0,x1,x2,x3,x4,x5,x6⟩:=jr HXW;obtain⟨c0,c1,c2,c3,c4,c5,c6,c7,c8,c9⟩:=iQ HSW.blk;have y9:=cell_regrown c9;have z0:=cell_regrown x0;have z1:=cell_regrown x1;have z2:=cell_regrown x2;have z3:=cell_regrown x3;have z4:=cell_regrown x4;have z5:=cell_regrown x5;have z6:=cell_regrown x6;clear x0 x1 x2 x3 x4 x5 x6 c0 c1 c2 c3 c4 c5 c6 c7 c8 c9;refine jN Aab ?_;show sU _ _ _ _ 11 (Array.replicate 11 false) _ _
 open als in exact afu
set_option maxHeartbeats 2000000
open Go.RowKit Go.Maps Go.Sort
theorem ags (m:Nat):AnyZI.SortsIn Tryz.prog Tryz.sortedL_ren Fence.wide m:=
 ⟨λblk off cap ss W hH hblk hsz=>callsIn_wide.2 (AnyM.slices_Sort_int Tryz.sortL blk off cap ss W hH hblk hsz),
  λp cap W=>callsIn_wide.2 (AnyM.slices_Sort_int_none Tryz.sortL p cap W)⟩
theorem abf (mb:Option Nat) (W:World):Calls Tryz.prog 234 #[.map mb] W λe w'=>e= .returned (.func (.func 253) #[] #[.pointer (some ⟨W.heap.size,0,none⟩)])/\w'=W.alloc (.cells #[.map mb] 259):=
 callsIn_wide.1 (AnyZI.keys_in Tryz.keysL Fence.wide 5 trivial rfl mb W)
theorem ZH {l ss:List Int} (hp:l.Pairwise (· < ·)) (h:ss.Perm l):ss.mergeSort (λx y=>decide (x<=y))=l:=by
 have h1:ss.mergeSort leI=l.mergeSort leI:=mergeSort_of_perm_i h;refine h1.trans (List.mergeSort_of_pairwise ?_);exact hp.imp (λ{a b} h=>by simp only[leI,decide_eq_true_eq];omega)
theorem UQ (B mb n:Nat) (l:List Int) (W:World) (hl:l.length<=1000) (hp:l.Pairwise (· < ·)) (hB:W.heap[B]?=some (.cells #[.map (some mb)] 259 (0,0))) (hs:fA W mb n l):
 Calls Tryz.prog 233 #[.func (.func 253) #[] #[.pointer (some ⟨B,0,none⟩)]] W λe w'=>∃v,e= .returned v/\w'.ownsRow W.heap.size 3 1 v l.length (GR.flat aW l)/\aX W w':=by
 obtain⟨D,hown,ha⟩:=hs;have hk:=fA.keys hown ha (hp.imp (λh=>Aaa));have hsz:Maps.size D=l.length:=by rw [Il hown,hk.length_eq]
 have hcell:W.cell? ⟨B,0,none⟩=some (.map (some mb)):=cell_of_row W B 0 _ _ (0,0) hB
 have hseq:SeqGives Fence.wide 2 Tryz.prog 253 #[.pointer (some ⟨B,0,none⟩)] encZ (λss=>ss.Perm (intKeys D)) (Maps.size D) W:=
  AnyZI.keys_gives (ρ:=Tryz.keysL_ren) {Tryz.keysL with} Fence.wide _ trivial rfl Aaa B mb n D _ (aA hB) hcell hown
 have cS:=AnyZI.sorted_in Tryz.sortedL Fence.wide 5 trivial trivial trivial trivial rfl Aaa (ags _) (enters_of Tryz.func123 Aab rfl) 253 #[.pointer (some ⟨B,0,none⟩)] trivial (enters_of Tryz.func253 Aab rfl) _ _ (by rw [hsz];unfold maxLen;omega) (by rw [hsz];omega) _ hseq;change CallsIn _ _ Tryz.prog 233 _ _ _ at cS
 refine(callsIn_wide.1 cS).mono ?_;rintro e w' ⟨v,ss,rfl,hS,hrow,_,hb⟩;have hperm:ss.Perm l:=hS.trans hk.symm;rw [ZH hp hperm,hperm.length_eq,<-C9] at hrow;exact⟨v,rfl,hrow,hb⟩
theorem vD (sb mb n:Nat) (f low:Int) (l:List Int) (w:World) (hl:l.length<=1000) (hp:l.Pairwise (· < ·)) (hb:ku w sb mb low) (hs:fA w mb n l):
 Calls Tryz.prog 199 #[.pointer (some ⟨sb,0,none⟩),.int .i64 f] w λe w'=>∃v,e= .returned (.agg #[.int .i64 f,.int .i64 low,v])/\w'.ownsRow w.heap.size 3 1 v l.length (GR.flat aW l)/\aX w w':=by
 have hsl:=aA hb;have HB:=Hq hb;have HS:=Hq hs;have Vj:=Hq abf;have Gt:=Hq (λB W (h1:W.heap[B]?=_) (h2:fA W mb n l)=>UQ B mb n l W hl hp h1 h2);have hb1:=ay hb (aj w (.cells #[.int .i64 0,.int .i64 0,.slice none 0 0] 90));obtain⟨⟨m0,m1⟩,_⟩:=lM hb1;clear hb hs hb1;go_enter Tryz.func199,Tryz.ntmps199
 go_upto_region 1 with fail;have y0:=cell_regrown m0;have y1:=cell_regrown m1;clear m0 m1;refine bE 12 Aab ?_;show eF _ _ _ _ _ 13 (Array.replicate 13 false) _ _
 refine tk [0,1,2,3,4,5,6,7,8] ?_;iterate 9 (refine qA (λK hK=>?_);go_simp;refine hK _ ?_;clear hK K)
 refine iN ?_;clear y0 y1;refine dz 9 rfl Aab Aad (λx hx=>?_);go_simp;have HX:=Hq hx;clear hx;refine(Vj (some mb) x).mono ?_;rintro e y ⟨rfl,rfl⟩;refine⟨aj x _,?_⟩;refine dz 10 rfl Aab Aad (λx2 hx2=>?_);go_simp;have HX2:=Hq hx2;have h1:x2.heap[x.heap.size]?=some (.cells #[.map (some mb)] 259 (0,0)):=ay (heap_alloc_new x _) hx2;have HG:=Hq (Ge.trans (Ge.trans HX (aj x _)) hx2);have h2:fA x2 mb n l:=HS.kept ((HG.block mb (by have:=HS.lt;simp;omega)).trans (Below.heap_alloc _ _ _ HS.lt));have HCS:=Hq (Gt x.heap.size x2 h1 h2);clear hx2 h1 h2 Vj Gt HX2;refine HCS.mono ?_;rintro e z ⟨v,rfl,hrow,hbz⟩;refine⟨hbz,?_⟩;obtain⟨av,cv,rfl,_⟩:=GR.own_at (enc:=aW) (sz:=1) aQ hrow;have HRW:=Hq hrow;have HZ:=Hq (Ge.trans HG hbz);clear hrow hbz HCS;refine tk [11] ?_;(refine qA (λK hK=>?_);go_simp;refine hK _ ?_;clear hK K)
 refine iN ?_;refine aT Aab (λx3 hx3=>?_);have KG:=Hq (Ge.trans HZ hx3);have HR3:=Hq (GR.own_below HRW hx3);have e3:x3.heap[w.heap.size]?=some (.cells #[.int .i64 0,.int .i64 0,.slice none 0 0] 90 (0,0)):=ay (heap_alloc_new w _) KG;have f0:=au e3 0;have f1:=au e3 1;have f2:=au e3 2;have hw3:=aA e3;obtain⟨d0,d1,d2⟩:=three e3;have E3:=Hq e3;clear e3 hx3 HX HZ HRW;refine aF 12 rfl Aab Aad ?_;go_simp;refine wpAny_done Aab ?_;clear d0 d1 d2 f0 f1 f2;go_wp2_with fail;refine aN (λW' hW'=>?_)
 have e4:W'.heap[w.heap.size]?=some (.cells #[.int .i64 f,.int .i64 low,.slice av l.length cv] 90 (0,0)):=by
  rw [hW'];exact GR.setW_blk [.int .i64 f,.int .i64 low,.slice av l.length cv] (o:=0) (xs:=[.int .i64 0,.int .i64 0,.slice none 0 0]) E3
 have hsw:w.heap.size < x2.heap.size:=by have:=HG.size;simp at this;omega
 have hg:x3.grownBy W' (some w.heap.size):=by
  rw [hW'];exact⟨rfl,rfl,rfl,Aao,λk _ hk=>GR.setW_other (g':=k) (λe=>hk Aan) [.int .i64 f,.int .i64 low,.slice av l.length cv] (o:=0)⟩
 have hne:∀k,(Value.slice av l.length cv).ownBlock=some k->k≠w.heap.size:=λk hk=>by have:=(HR3.lt k hk).1;omega
 have hrow:W'.ownsRow x2.heap.size 3 1 (.slice av l.length cv) l.length (GR.flat aW l):=by
  refine HR3.kept (row:=some w.heap.size) hg ?_;cases hv:(Value.slice av l.length cv).ownBlock with
  |none=>exact .inl rfl
  |some k=>exact .inr (λe=>hne k hv (by injection e))
 have hbel:aX w W':=by
  rw [hW'];exact GR.setW_below (Nat.le_refl _) [.int .i64 f,.int .i64 low,.slice av l.length cv] (o:=0) ((aj w _).trans (KG.mono Aac))
 have HRW:=Hq (ownsRow_base_a hrow (show w.heap.size<=x2.heap.size by omega));have gZ:=Hq hbel;obtain⟨d0,d1,d2⟩:=three e4;clear hW' e4 hg hrow hbel;exact bodyPost_ret (v:= .agg #[.int .i64 f,.int .i64 low,.slice av l.length cv]) (by simp[results,Tryz.results199,go_sem,d0,d1,d2]) rfl ⟨_,rfl,HRW,gZ⟩
theorem oF {s:ByteArray} (hs:keyOk s.data.toList=true):s.size<=1048576:=by
 rcases Classical.em (1<=s.data.toList.length/\s.data.toList.length<=10) with h|h
 .have e:s.size=s.data.toList.length:=by rw [Array.length_toList];rfl
  omega
 .rw [keyOk_len _ h] at hs;cases hs
theorem abl {n:Nd} (hok:dU n=true):fu n 1048576:=by
 obtain⟨h1,h2,h3,h4,h5,h6⟩:=bQ hok;have hq:=iM h6;have ho:=qP h5;have hn:=uF h1;have hpl:=h1;unfold dZ at hpl;simp only[Bool.and_eq_true,decide_eq_true_eq] at hpl;have htl:=h3;unfold nC at htl;rw [Bool.and_eq_true,decide_eq_true_eq] at htl;have hps:=(jJ n.pu).1 h2;refine⟨Aaa,Aaa,Aaa,by split at htl<;>omega,Aaa,λx hx=>?_,λx hx=>?_,λx hx=>?_,λx hx=>?_⟩
 .have:=hps.1 x hx;unfold gJ at this;simp only[Bool.and_eq_true] at this;exact oF (by first|exact this.1|exact this.1.1|exact this.1.1.1|exact this.1.1.1.1)
 .have:=ho.2.2 x hx;unfold tX at this;simp only[Bool.and_eq_true] at this;exact oF this.1.2
 .have:=yL hok x hx;unfold uh at this;simp only[Bool.and_eq_true,decide_eq_true_eq] at this;omega
 .exact oF (jL (hq.2.2.1 x hx)).2.2.1
theorem atd {n:Nd} {o:gM} (hz:fu n 1048576):fu (PO n o).1 1048576:=by
 cases hok:dU n
 .rw [Ce hok];exact hz
 .exact abl (R7 hok)
namespace Mth
def iB (n:Nd) (L:List gM):Nd:=L.foldl (λm o=>(PO m o).1) n
theorem H6 {n:Nd} {L:List gM} {k:Nat} (hk:k < L.length):iB n (L.take (k+1))=(PO (iB n (L.take k)) L[k]).1:=by
 unfold iB;rw [List.take_succ_eq_append_getElem hk,List.foldl_append];rfl
theorem Zj {n:Nd} (h:dU n=false) (L:List gM):iB n L=n:=by
 induction L with
 |nil=>rfl
 |cons o L ih=>
  have e:iB n (o::L)=iB (PO n o).1 L:=rfl
  rw [e,Ce h]
  exact ih
theorem Sd {n:Nd} (h:dU n=true) (L:List gM):dU (iB n L)=true:=by
 induction L generalizing n with
 |nil=>exact h
 |cons o L ih=>exact ih (R7 h)
theorem Sg {n:Nd} (h:fu n 1048576) (L:List gM):fu (iB n L) 1048576:=by
 induction L generalizing n with
 |nil=>exact h
 |cons o L ih=>exact ih (atd h)
theorem atN {s:ByteArray} {a:Nat} (h:BN s a=true):bV (opC (EC s a))=true:=by
 have hg:=(rA h).2.2.2.2.2.1;unfold j6 at hg;simp only[Bool.and_eq_true] at hg;exact hg.2
theorem Ij (s:ByteArray):∀(f a:Nat),a<=s.size->(qR s f a).1.length+a<=s.size
 |0,a,h=>by simpa [qR] using h
 |f+1,a,h=>by
  unfold qR
  split
  .rename_i hs
   obtain⟨p1,_,_,p2,p3,_⟩:=rA hs;have:=Ij s f (EP s a).toNat Aaa;rw [List.length_cons];omega
  .simpa using h
theorem ND (s:ByteArray):∀(f a:Nat),∀o∈(qR s f a).1,bV o=true
 |0,_,o,h=>by simp[qR] at h
 |f+1,a,o,h=>by
  unfold qR at h
  split at h
  .rename_i hs
   rcases List.mem_cons.1 h with rfl|h
   .exact atN hs
   .exact ND s f _ o h
  .simp at h
theorem Qq {s:ByteArray} (h:s.toList=[]):s.size<=1048576:=by
 have e:s=ByteArray.empty:=toList_inj (h.trans (by decide+kernel));rw [e];decide
theorem Sb {o:gM} (h:bV o=true):o.k.size<=1048576/\o.m.k.size<=1048576:=by
 have zm:kX o.m=true->o.m.k.size<=1048576:=λh=>by
  unfold kX at h
  exact Qq (of_decide_eq_true h).2.2.2.2.2.1
 unfold bV at h;split at h
 .simp only[Bool.and_eq_true] at h;exact⟨oF h.1.1.1,zm h.2⟩
 split at h
 .simp only[Bool.and_eq_true] at h;exact⟨oF h.1.1.1,zm h.2⟩
 split at h
 .exact aey
 split at h
 .exact aey
 split at h
 .simp only[Bool.and_eq_true] at h;refine⟨Qq (of_decide_eq_true h.1.1.1),?_⟩;have hm:=h.2;unfold bX at hm;simp only[Bool.and_eq_true] at hm;have h2:=hm.2;split at h2
  .simp only[Bool.and_eq_true] at h2;exact oF h2.1.1.1
  split at h2
  .simp only[Bool.and_eq_true] at h2;exact oF h2.1.1.1
  split at h2
  .simp only[Bool.and_eq_true,decide_eq_true_eq] at h2;omega
  .cases h2
 .cases h
theorem Nw (s:ByteArray):∀o∈(iF s).1,bV o=true:=by
 unfold iF;split
 .exact ND s _ _
 .intro o h;simp at h
theorem Ig (s:ByteArray):(iF s).1.length<=60000:=by
 unfold iF;split
 .rename_i h
  have:=Ij s (s.size+1) 0 (Nat.zero_le _);omega
 .simp
end Mth
structure WO (w:World) (b:Option Addr) (c x:Nat) (ids:List Int):Prop where
 W:GR.W aW 1 w b x ids
 e:ids=[]->c=0
 o:ids≠[]->w.ownsRow 0 3 1 (.slice b ids.length c) ids.length (GR.flat aW ids)
theorem WO.of_own {w:World} {B:Nat} {b:Option Addr} {c x:Nat} {ids:List Int} (hW:GR.W aW 1 w b x ids) (h:w.ownsRow B 3 1 (.slice b ids.length c) ids.length (GR.flat aW ids)) (h0:ids=[]->c=0):WO w b c x ids:=
 ⟨hW,h0,λ_=>GR.own_lower h (Nat.zero_le _)⟩
theorem WO.blk {w:World} {b:Option Addr} {c x y:Nat} {ids:List Int} (h:WO w b c x ids) (hn:ids≠[]) (hy:(Value.slice b ids.length c).ownBlock=some y):y=x/\0 < ids.length:=by
 have hpos:0 < ids.length:=by
  cases ids with
  |nil=>exact absurd rfl hn
  |cons _ _=>simp
 obtain⟨e,_,_⟩:=h.W 0 hpos;subst e;exact⟨by simpa [Value.ownBlock] using hy.symm,hpos⟩
theorem WO.keeps {F:List Nat} {w w':World} {b:Option Addr} {c x:Nat} {ids:List Int} (h:WO w b c x ids) (hk:aC F w w') (hd:∀y∈fp x ids,y∉F):WO w' b c x ids:=by
 refine⟨h.W.keeps hk hd,h.e,λhn=>⟨(h.o hn).1,?_⟩⟩;rcases(h.o hn).2 with h1|⟨g,cap,cur,hv,hb,hgg,rest⟩
 .exact .inl h1
 .refine .inr ⟨g,cap,cur,hv,hb,hk.obj hgg (λhm=>?_),rest⟩;have h2:=h.blk hn (y:=g) (by rw [hv];rfl);rw [h2.1] at hm;exact hd x (dQ h2.2) hm
theorem WO.below {w w':World} {b:Option Addr} {c x:Nat} {ids:List Int} (h:WO w b c x ids) (hb:aX w w'):WO w' b c x ids:=h.keeps (F:=[]) (aC.of_below hb) (λ_ _=>Aac)
theorem WO.blocks {w w':World} {b:Option Addr} {c x:Nat} {ids:List Int} (h:WO w b c x ids) (hs:w.heap.size<=w'.heap.size) (hb:∀y∈fp x ids,w'.heap[y]?=w.heap[y]?):WO w' b c x ids:=by
 refine⟨λi hi=>?_,h.e,λhn=>⟨(h.o hn).1,?_⟩⟩
 .obtain⟨e,hg,hc⟩:=h.W i hi;have hbx:=hb x (dQ Aaa);exact adR
 .rcases(h.o hn).2 with h1|⟨g,cap,cur,hv,hB,hgg,rest⟩
  .exact .inl h1
  .have h2:=h.blk hn (y:=g) (by rw [hv];rfl);exact .inr ⟨g,cap,cur,hv,hB,(by rw [h2.1];rw [h2.1] at hgg;exact(hb x (dQ h2.2)).trans hgg),rest⟩
def Wy (w:World) (l:List Sn) (T:List R3) (I:Nat->Nat):Prop:=T.length=l.length/\∀i (hi:i < l.length),∃b c,T[i]?=some ⟨l[i].f,l[i].l,.slice b l[i].ids.length c⟩/\WO w b c (I i) l[i].ids
def nN (w:World) (a:Option Addr) (g:Nat) (I:Nat->Nat) (l:List Sn):Prop:=(∃T,GR.W eG 3 w a g T/\Wy w l T I)/\(0 < l.length->∃cs,w.heap[g]?=some (.cells cs 90 (0,0)))
theorem nN.w {w:World} {a:Option Addr} {g:Nat} {I:Nat->Nat} {l:List Sn} (h:nN w a g I l):fP w a g I l:=by
 obtain⟨⟨T,hT,hl,hr⟩,_⟩:=h;refine⟨T,hT,hl,λi hi=>?_⟩;obtain⟨b,c,ht,ho⟩:=hr i hi;exact⟨b,c,ht,ho.W⟩
theorem nN.blocks {w w':World} {a:Option Addr} {g:Nat} {I:Nat->Nat} {l:List Sn} (h:nN w a g I l) (hs:w.heap.size<=w'.heap.size) (hb:∀x∈fp g l,w'.heap[x]?=w.heap[x]?) (hI:∀x∈qw I l,w'.heap[x]?=w.heap[x]?):nN w' a g I l:=by
 obtain⟨⟨T,hT,hl,hr⟩,hy⟩:=h;refine⟨⟨T,λi hi=>?_,hl,λi hi=>?_⟩,λhp=>?_⟩
 .obtain⟨e,hg,hc⟩:=hT i hi;have hbx:=hb g (dQ Aaa);exact adR
 .obtain⟨b,c,ht,ho⟩:=hr i hi;exact⟨b,c,ht,ho.blocks hs (λx hx=>hI x (jw hi x hx))⟩
 .obtain⟨cs,hc⟩:=hy hp;exact⟨cs,(hb g (dQ hp)).trans hc⟩
theorem KC.seenQ {c:Nat->Nat} {k:Nat} {w w':World} {a:Option Addr} {g:Nat} {I:Nat->Nat} {l:List Sn} (h:KC c k w w') (hs:nN w a g I l) (h4:∀x∈fp g l,c x=4) (h5:∀x∈qw I l,c x=5) (hk4:4≠k) (hk5:5≠k):nN w' a g I l:=
 hs.blocks h.size (λx hx=>h.block x ((qh hs.w).1 x hx) (by rw [h4 x hx];exact hk4)) (λx hx=>h.block x ((qh hs.w).2 x hx) (by rw [h5 x hx];exact hk5))
structure NQ (w:World) (B:Nat) (n:Nd) (A:bH) (G:aV) (c:Nat->Nat):Prop extends NO w B n A G c where
 sq:nN w A.s G.s G.i n.seen
theorem NQ.kc {w w':World} {B:Nat} {n:Nd} {A:bH} {G:aV} {c:Nat->Nat} {k:Nat} (h:NQ w B n A G c) (hk:KC c k w w') (h7:6 < k):NQ w' B n A G c:=
 ⟨h.toNO.kc hk h7,hk.seenQ h.sq h.c4 h.ci Aaa Aaa⟩
theorem NQ.recol {w:World} {B:Nat} {n:Nd} {A:bH} {G:aV} {c c':Nat->Nat} (h:NQ w B n A G c) (hB:B<=w.heap.size) (hc:∀x,x < w.heap.size->c' x=c x):NQ w B n A G c':=⟨h.toNO.recol hB hc,h.sq⟩
structure Wx (w:World) (A:bH) (n:Nd) (gk gs:Nat) (I:Nat->Nat) (c:Nat->Nat):Prop where
 k:GR.W aW 1 w A.k gk n.kids
 p:aH w A.p n.pu
 o:w.ownsRow 0 95 4 (.slice A.o n.out.length A.co) n.out.length (GR.flat aR n.out)
 s:nN w A.s gs I n.seen
 r:w.ownsRow 0 97 4 (.slice A.r n.reqs.length A.cr) n.reqs.length (GR.flat aM n.reqs)
 ck:∀x∈fp gk n.kids,c x=1
 cp:∀g,A.p.map (λy=>y.block)=some g->0 < n.pu.length->c g=2
 co:∀x,(Value.slice A.o n.out.length A.co).ownBlock=some x->c x=3
 c4:∀x∈fp gs n.seen,c x=4
 ci:∀x∈qw I n.seen,c x=5
 cr:∀x,(Value.slice A.r n.reqs.length A.cr).ownBlock=some x->c x=6
 ni:(qw I n.seen).Nodup
def RM (w:World) (A:bH) (n:Nd):Prop:=∃gk gs I c,Wx w A n gk gs I c
theorem Wx.at {w:World} {A:bH} {n:Nd} {gk gs:Nat} {I:Nat->Nat} {c:Nat->Nat} (h:Wx w A n gk gs I c):dK w A n:=by
 refine⟨h.k.at,h.p,?_,h.s.w.at,?_⟩
 .exact aeh
 .exact aei
theorem RM.at {w:World} {A:bH} {n:Nd} (h:RM w A n):dK w A n:=by
 obtain⟨_,_,_,_,h⟩:=h;exact h.at
theorem RM.of {w:World} {n:Nd} {A:bH} {gk gs Bo Br:Nat} {I:Nat->Nat} {c:Nat->Nat} (k:GR.W aW 1 w A.k gk n.kids) (ck:∀x∈fp gk n.kids,c x=1)
 (s:nN w A.s gs I n.seen) (c4:∀x∈fp gs n.seen,c x=4) (ci:∀x∈qw I n.seen,c x=5) (ni:(qw I n.seen).Nodup)
 (p:aH w A.p n.pu) (cp:∀g,A.p.map (λy=>y.block)=some g->0 < n.pu.length->c g=2\/6 < c g)
 (o:w.ownsRow Bo 95 4 (.slice A.o n.out.length A.co) n.out.length (GR.flat aR n.out)) (co:∀x,(Value.slice A.o n.out.length A.co).ownBlock=some x->c x=3\/6 < c x)
 (r:w.ownsRow Br 97 4 (.slice A.r n.reqs.length A.cr) n.reqs.length (GR.flat aM n.reqs)) (cr:∀x,(Value.slice A.r n.reqs.length A.cr).ownBlock=some x->c x=6\/6 < c x)
 (po:∀g,A.p.map (λy=>y.block)=some g->0 < n.pu.length->6 < c g->(Value.slice A.o n.out.length A.co).ownBlock≠some g/\(Value.slice A.r n.reqs.length A.cr).ownBlock≠some g)
 (or:∀x,(Value.slice A.o n.out.length A.co).ownBlock=some x->6 < c x->(Value.slice A.r n.reqs.length A.cr).ownBlock≠some x):RM w A n:=by
 have po2:∀g,A.p.map (λy=>y.block)=some g->0 < n.pu.length->(Value.slice A.o n.out.length A.co).ownBlock≠some g/\(Value.slice A.r n.reqs.length A.cr).ownBlock≠some g:=λg hg hp=>by
  rcases cp g hg hp with h|h
  .exact⟨λe=>by have:=co g e;omega,λe=>by have:=cr g e;omega⟩
  .exact po g hg hp h
 have or2:∀x,(Value.slice A.o n.out.length A.co).ownBlock=some x->(Value.slice A.r n.reqs.length A.cr).ownBlock≠some x:=λx hx=>by
  rcases co x hx with h|h
  .exact λe=>by have:=cr x e;omega
  .exact or x hx h
 refine⟨gk,gs,I,λx=>if A.p.map (λy=>y.block)=some x/\0 < n.pu.length then 2 else if (Value.slice A.o n.out.length A.co).ownBlock=some x then 3 else if (Value.slice A.r n.reqs.length A.cr).ownBlock=some x then 6 else c x,?_⟩
 have same:∀x,c x=1\/c x=4\/c x=5->(if A.p.map (λy=>y.block)=some x/\0 < n.pu.length then 2 else if (Value.slice A.o n.out.length A.co).ownBlock=some x then 3 else if (Value.slice A.r n.reqs.length A.cr).ownBlock=some x then 6 else c x)=c x:=λx hx=>by
  rw [if_neg (λh=>by have:=cp x h.1 h.2;omega),if_neg (λh=>by have:=co x h;omega),if_neg (λh=>by have:=cr x h;omega)]
 refine⟨k,p,GR.own_lower o (Nat.zero_le _),s,GR.own_lower r (Nat.zero_le _),λx hx=>?_,λg hg hp=>?_,λx hx=>?_,λx hx=>?_,λx hx=>?_,λx hx=>?_,ni⟩
 .have:=ck x hx;show(if _ then _ else _)=1
  rw [same x Aaa];exact this
 .show(if _ then _ else _)=2
  rw [if_pos ⟨hg,hp⟩]
 .show(if _ then _ else _)=3
  rw [if_neg (λh=>(po2 x h.1 h.2).1 hx),if_pos hx]
 .have:=c4 x hx;show(if _ then _ else _)=4
  rw [same x Aaa];exact this
 .have:=ci x hx;show(if _ then _ else _)=5
  rw [same x Aaa];exact this
 .show(if _ then _ else _)=6
  rw [if_neg (λh=>(po2 x h.1 h.2).2 hx),if_neg (λh=>or2 x h hx),if_pos hx]
theorem Wz {α:Type} {enc:α->List Value} {sz:Nat} {w:World} {a:Option Addr} {g:Nat} {l:List α} (h:GR.W enc sz w a g l) (hp:0 < l.length):a.map (λy=>y.block)=some g:=by
 obtain⟨e,_,_⟩:=h 0 hp;rw [e];rfl
theorem NQ.rm {w:World} {B:Nat} {n:Nd} {A:bH} {G:aV} {c:Nat->Nat} (h:NQ w B n A G c):RM w A n:=
 RM.of h.k h.ck h.sq h.c4 h.ci h.ni h.p.at (λg hg hp=>by rw [Wz h.p hp] at hg;cases hg;exact .inl (h.cp _ (dQ hp))) h.o (λx hx=> .inl (h.co x hx)) h.r (λx hx=> .inl (h.cr x hx))
  (λg hg hp h6=>by rw [Wz h.p hp] at hg;cases hg;have:=h.cp _ (dQ hp);omega) (λx hx h6=>by have:=h.co x hx;omega)
theorem nu {α:Type} {enc:α->List Value} {sz B:Nat} {w:World} {e:TypeId} {a:Option Addr} {c g:Nat} {l:List α} (h:w.ownsRow B e sz (.slice a l.length c) l.length (GR.flat enc l)) (hg:a.map (λy=>y.block)=some g):(Value.slice a l.length c).ownBlock=some g:=by
 rcases h.2 with⟨hv,_⟩|⟨g',cap,cur,hv,_⟩
 .simp only[Value.slice.injEq] at hv;rw [hv.1] at hg;cases hg
 .simp only[Value.slice.injEq] at hv;rw [hv.1] at hg ⊢;cases hg
  rfl
theorem sG {w:World} {B sz k x:Nat} {e:TypeId} {v:Value} {xs:List Value} (h:w.ownsRow B e sz v k xs) (hx:v.ownBlock=some x):B<=x:=by
 rcases h.2 with⟨rfl,_⟩|⟨g,cap,cur,rfl,hb,_⟩
 .simp[Value.ownBlock] at hx
 .have:g=x:=Abo
  omega
theorem JF {w:World} {B sz k x:Nat} {e:TypeId} {v:Value} {xs:List Value} (h:w.ownsRow B e sz v k xs) (hx:v.ownBlock=some x):x < w.heap.size:=by
 rcases h.2 with⟨rfl,_⟩|⟨g,cap,cur,rfl,hb,hg,_⟩
 .simp[Value.ownBlock] at hx
 .have:g=x:=Abo
  rw [<-this];exact aA hg
theorem NQ.put {w X:World} {B B' Bo Br:Nat} {n:Nd} {A:bH} {G:aV} {c c':Nat->Nat} (h:NQ w B n A G c) (hc:NQ X B' n A G c') (n':Nd) (A':bH) (ek:n'.kids=n.kids) (es:n'.seen=n.seen) (ak:A'.k=A.k) (ea:A'.s=A.s)
 (p:aH w A'.p n'.pu) (cp:∀g,A'.p.map (λy=>y.block)=some g->0 < n'.pu.length->c' g=2\/6 < c' g)
 (o:w.ownsRow Bo 95 4 (.slice A'.o n'.out.length A'.co) n'.out.length (GR.flat aR n'.out)) (co:∀x,(Value.slice A'.o n'.out.length A'.co).ownBlock=some x->c' x=3\/6 < c' x)
 (r:w.ownsRow Br 97 4 (.slice A'.r n'.reqs.length A'.cr) n'.reqs.length (GR.flat aM n'.reqs)) (cr:∀x,(Value.slice A'.r n'.reqs.length A'.cr).ownBlock=some x->c' x=6\/6 < c' x)
 (po:∀g,A'.p.map (λy=>y.block)=some g->0 < n'.pu.length->6 < c' g->(Value.slice A'.o n'.out.length A'.co).ownBlock≠some g/\(Value.slice A'.r n'.reqs.length A'.cr).ownBlock≠some g)
 (or:∀x,(Value.slice A'.o n'.out.length A'.co).ownBlock=some x->6 < c' x->(Value.slice A'.r n'.reqs.length A'.cr).ownBlock≠some x):RM w A' n':=
 RM.of (c:=c') (gk:=G.k) (gs:=G.s) (I:=G.i) (by rw [ek,ak];exact h.k) (by rw [ek];exact hc.ck) (by rw [es,ea];exact h.sq) (by rw [es];exact hc.c4) (by rw [es];exact hc.ci) (by rw [es];exact hc.ni) p cp o co r cr po or
theorem NQ.cpB {w:World} {B:Nat} {n:Nd} {A:bH} {G:aV} {c:Nat->Nat} {X:World} {B':Nat} {c':Nat->Nat} (h:NQ w B n A G c) (hc:NQ X B' n A G c'):∀g,A.p.map (λy=>y.block)=some g->0 < n.pu.length->c' g=2:=λg hg hp=>by
 rw [Wz h.p hp] at hg;cases hg
 exact hc.cp _ (dQ hp)
end Go.Proofs.YtacgbldlonoaaaaGreatDoor
