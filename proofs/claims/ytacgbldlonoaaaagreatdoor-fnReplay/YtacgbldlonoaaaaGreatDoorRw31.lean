/- Parts. -/
import Derived.Test.YtacgbldlonoaaaaGreatDoorRw18
import Derived.Test.YtacgbldlonoaaaaGreatDoorRw26
import Derived.Test.YtacgbldlonoaaaaGreatDoorRw27
namespace Go.Proofs.YtacgbldlonoaaaaGreatDoor
open Go.Proofs.Tryz
set_option maxHeartbeats 4000000
set_option maxRecDepth 100000
open Go.RowKit
open Mth
variable (w0 w:World) (wb:Nat) (n:Nd) (A:bC) (G:bJ) (c:Nat->Nat) (v:Value) (L:List Mg) (o:fP) {g B:Nat} {X:World} {b0 b1 b2 b3 b4 b5 b6 b7 b8:Value}
theorem Cw (wb:Nat) (a:Option Addr) (len cp:Nat) (w:World):Calls prog 162 #[.pointer (some ⟨wb,0,none⟩),.slice a len cp,.bool false] w λe w'=>e= .returned (.bool false)/\w=w':=by
 exact ahZ
theorem yO (wb:Nat) (n:Nd) (A:bC) (v:Value) (a:Option Addr) (len cp:Nat) (w:World) (h:w.heap[wb]?=some (.cells (RI n A v) 74 (0,0))):Calls prog 162 #[.pointer (some ⟨wb,0,none⟩),.slice a len cp,.bool true] w λe w'=>e= .returned (.bool true)/\w.setCell ⟨wb,4,none⟩ (.slice a len cp)=w':=by
 obtain⟨c0,c1,c2,c3,c4,c5,c6,c7,c8,c9⟩:=jr h;have f4:=aj h 4;clear h;exact ahZ
theorem VQ {w0 w x:World} {wb:Nat} {n:Nd} {A:bC} {G:bJ} {c:Nat->Nat} {v:Value} {L:List Mg} (h:WK w0 w wb n A G c v L) {r:List Pu×Bool} {a:Option Addr} {cp:Nat} (hb:aY w x) (hg:w.heap.size<=g) (hp:BJ x a g r.1):
 Calls prog 162 #[.pointer (some ⟨wb,0,none⟩),.slice a r.1.length cp,.bool r.2] x λe w'=>e= .returned (.bool r.2)/\∃A' G' c',WK w0 w' wb (if r.2=true then setPu n r.1 else n) A' G' c' v L:=by
 obtain⟨l,b⟩:=r;cases b with
 |false=>
  refine(Cw wb a l.length cp x).mono ?_
  rintro e w' ⟨rfl,rfl⟩
  exact⟨rfl,A,G,c,h.step hb⟩
 |true=>
  refine(yO wb n A v a l.length cp x (h.step hb).blk).mono ?_
  rintro e w' ⟨rfl,rfl⟩
  exact⟨rfl,_,_,_,h.setPu hb hp (λy hy=>by rw [(gV hy).1];exact hg)⟩
def vF (n:Nd) (o:fP):Nd×Int:=if n.par= -1/\(dJ n.pu o.k 1 1 0 o.n).2=true then(setPu n (dJ n.pu o.k 1 1 0 o.n).1,0) else(n,1)
theorem YF (hpar:¬n.par= -1) (h:WK w0 w wb n A G c v L):
 Calls prog 107 #[.pointer (some ⟨wb,0,none⟩),jX o] w λe w'=>e= .returned (.int .i64 (vF n o).2)/\∃A' G' c',WK w0 w' wb (vF n o).1 A' G' c' v L:=by
 have hR:vF n o=(n,1):=if_neg (λhx=>hpar hx.1);rw [hR];have hq:(n.par != -1)=true:=Abl
 have hq2:(n.par == -1)=false:=Abl
 have HW:=Hq h;obtain⟨K,no,k,nn,⟨mK,mF,mT,mI,mL,mk,mN⟩⟩:=o;open anL in exact WE
theorem Uu (E:Nat->Addr) (hz:eY n 1048576) (hk:o.k.size<=1048576) (hpar:n.par= -1) (h:WK w0 w wb n A G c v L) (he:iH w0 E):
 Calls prog 107 #[.pointer (some ⟨wb,0,none⟩),jX o] w λe w'=>e= .returned (.int .i64 (vF n o).2)/\∃A' G' c',WK w0 w' wb (vF n o).1 A' G' c' v L:=by
 have hR:vF n o=((if (dJ n.pu o.k 1 1 0 o.n).2=true then setPu n (dJ n.pu o.k 1 1 0 o.n).1 else n),(if (dJ n.pu o.k 1 1 0 o.n).2=true then 0 else 1)):=by
  unfold vF;cases hb:(dJ n.pu o.k 1 1 0 o.n).2<;>simp[hpar]
 rw [hR];have hq:(n.par != -1)=false:=Abl
 have hq2:(n.par == -1)=true:=Abl
 have HW:=Hq h;have HMI:=Hq (λw1 (hb:aY w w1)=>abM A.p A.cp n.pu o.k o.n E w1 hz.p hz.pk hk (GR.At.below h.no.p.at hb) (he.below (h.keep.trans (hb.mono h.keep.size))));unfold ku at HMI;obtain⟨K,no,k,nn,⟨mK,mF,mT,mI,mL,mk,mN⟩⟩:=o;dsimp only at HMI ⊢;generalize dJ n.pu k 1 1 0 nn=r at *;open anK in exact WE
theorem akk (E:Nat->Addr) (hz:eY n 1048576) (hk:o.k.size<=1048576) (h:WK w0 w wb n A G c v L) (he:iH w0 E):
 Calls prog 107 #[.pointer (some ⟨wb,0,none⟩),jX o] w λe w'=>e= .returned (.int .i64 (vF n o).2)/\∃A' G' c',WK w0 w' wb (vF n o).1 A' G' c' v L:=by
 by_cases hpar:n.par= -1
 .exact Uu w0 w wb n A G c v L o E hz hk hpar h he
 .exact YF w0 w wb n A G c v L o hpar h
def GI (n:Nd) (o:fP):List Mg×Int:=if n.par= -1 then([],1) else([Kz n o],0)
theorem akm (hk:o.k.size<=1048576) (hL:L.length<=2097100) (h:WK w0 w wb n A G c v L):
 Calls prog 110 #[.pointer (some ⟨wb,0,none⟩),jX o] w λe w'=>e= .returned (.int .i64 (GI n o).2)/\∃c' v',WK w0 w' wb n A G c' v' (L++(GI n o).1):=by
 have Bg:=Hq (λW c v (hW:WK w0 W wb n A G c v L)=>VW w0 W wb n A G c v L (Kz n o) (by show o.k.size<=1048600;omega) Aaa hW);unfold Kz at Bg;have hwl:=aA h.blk;have hne:wb≠w.heap.size:=Aaa
 by_cases hpar:n.par= -1
 .have hR:GI n o=([],1):=if_pos hpar;rw [hR];open atH in exact aah
 .have hR:GI n o=([Kz n o],0):=if_neg hpar;rw [hR];unfold Kz;obtain⟨K,no,k,nn,⟨mK,mF,mT,mI,mL,mk,mN⟩⟩:=o;dsimp only at Bg ⊢;open anM in exact WE
theorem nU {w:World} (h:Below B w X) (hg:B<=g):
 Below B w (((((((((X.setCell ⟨g,0,none⟩ b0).setCell ⟨g,1,none⟩ b1).setCell ⟨g,2,none⟩ b2).setCell ⟨g,3,none⟩ b3).setCell ⟨g,4,none⟩ b4).setCell ⟨g,5,none⟩ b5).setCell ⟨g,6,none⟩ b6).setCell ⟨g,7,none⟩ b7).setCell ⟨g,8,none⟩ b8):=
 ((((((((h.setCell (p:=⟨g,0,none⟩) hg b0).setCell (p:=⟨g,1,none⟩) hg b1).setCell (p:=⟨g,2,none⟩) hg b2).setCell (p:=⟨g,3,none⟩) hg b3).setCell (p:=⟨g,4,none⟩) hg b4).setCell (p:=⟨g,5,none⟩) hg b5).setCell (p:=⟨g,6,none⟩) hg b6).setCell (p:=⟨g,7,none⟩) hg b7).setCell (p:=⟨g,8,none⟩) hg b8
theorem oL {a0 a1 a2 a3 a4 a5 a6 a7 a8:Value} {t:TypeId} (h:X.heap[g]?=some (.cells #[a0,a1,a2,a3,a4,a5,a6,a7,a8] t (0,0))):
 (((((((((X.setCell ⟨g,0,none⟩ b0).setCell ⟨g,1,none⟩ b1).setCell ⟨g,2,none⟩ b2).setCell ⟨g,3,none⟩ b3).setCell ⟨g,4,none⟩ b4).setCell ⟨g,5,none⟩ b5).setCell ⟨g,6,none⟩ b6).setCell ⟨g,7,none⟩ b7).setCell ⟨g,8,none⟩ b8).heap[g]?=some (.cells #[b0,b1,b2,b3,b4,b5,b6,b7,b8] t (0,0)):=by
 have h0:(X.setCell ⟨g,0,none⟩ b0).heap[g]?=some (.cells #[b0,a1,a2,a3,a4,a5,a6,a7,a8] t (0,0)):=aT h 0 b0;have h1:((X.setCell ⟨g,0,none⟩ b0).setCell ⟨g,1,none⟩ b1).heap[g]?=some (.cells #[b0,b1,a2,a3,a4,a5,a6,a7,a8] t (0,0)):=aT h0 1 b1;have h2:(((X.setCell ⟨g,0,none⟩ b0).setCell ⟨g,1,none⟩ b1).setCell ⟨g,2,none⟩ b2).heap[g]?=some (.cells #[b0,b1,b2,a3,a4,a5,a6,a7,a8] t (0,0)):=aT h1 2 b2;have h3:((((X.setCell ⟨g,0,none⟩ b0).setCell ⟨g,1,none⟩ b1).setCell ⟨g,2,none⟩ b2).setCell ⟨g,3,none⟩ b3).heap[g]?=some (.cells #[b0,b1,b2,b3,a4,a5,a6,a7,a8] t (0,0)):=aT h2 3 b3;have h4:(((((X.setCell ⟨g,0,none⟩ b0).setCell ⟨g,1,none⟩ b1).setCell ⟨g,2,none⟩ b2).setCell ⟨g,3,none⟩ b3).setCell ⟨g,4,none⟩ b4).heap[g]?=some (.cells #[b0,b1,b2,b3,b4,a5,a6,a7,a8] t (0,0)):=aT h3 4 b4;have h5:((((((X.setCell ⟨g,0,none⟩ b0).setCell ⟨g,1,none⟩ b1).setCell ⟨g,2,none⟩ b2).setCell ⟨g,3,none⟩ b3).setCell ⟨g,4,none⟩ b4).setCell ⟨g,5,none⟩ b5).heap[g]?=some (.cells #[b0,b1,b2,b3,b4,b5,a6,a7,a8] t (0,0)):=aT h4 5 b5;have h6:(((((((X.setCell ⟨g,0,none⟩ b0).setCell ⟨g,1,none⟩ b1).setCell ⟨g,2,none⟩ b2).setCell ⟨g,3,none⟩ b3).setCell ⟨g,4,none⟩ b4).setCell ⟨g,5,none⟩ b5).setCell ⟨g,6,none⟩ b6).heap[g]?=some (.cells #[b0,b1,b2,b3,b4,b5,b6,a7,a8] t (0,0)):=aT h5 6 b6;have h7:((((((((X.setCell ⟨g,0,none⟩ b0).setCell ⟨g,1,none⟩ b1).setCell ⟨g,2,none⟩ b2).setCell ⟨g,3,none⟩ b3).setCell ⟨g,4,none⟩ b4).setCell ⟨g,5,none⟩ b5).setCell ⟨g,6,none⟩ b6).setCell ⟨g,7,none⟩ b7).heap[g]?=some (.cells #[b0,b1,b2,b3,b4,b5,b6,b7,a8] t (0,0)):=aT h6 7 b7;have h8:(((((((((X.setCell ⟨g,0,none⟩ b0).setCell ⟨g,1,none⟩ b1).setCell ⟨g,2,none⟩ b2).setCell ⟨g,3,none⟩ b3).setCell ⟨g,4,none⟩ b4).setCell ⟨g,5,none⟩ b5).setCell ⟨g,6,none⟩ b6).setCell ⟨g,7,none⟩ b7).setCell ⟨g,8,none⟩ b8).heap[g]?=some (.cells #[b0,b1,b2,b3,b4,b5,b6,b7,b8] t (0,0)):=aT h7 8 b8;exact h8
theorem kD:
 aC [g] X (((((((((X.setCell ⟨g,0,none⟩ b0).setCell ⟨g,1,none⟩ b1).setCell ⟨g,2,none⟩ b2).setCell ⟨g,3,none⟩ b3).setCell ⟨g,4,none⟩ b4).setCell ⟨g,5,none⟩ b5).setCell ⟨g,6,none⟩ b6).setCell ⟨g,7,none⟩ b7).setCell ⟨g,8,none⟩ b8):=
 (((((((((aC.set b0).trans (aC.set b1)).trans (aC.set b2)).trans (aC.set b3)).trans (aC.set b4)).trans (aC.set b5)).trans (aC.set b6)).trans (aC.set b7)).trans (aC.set b8))
theorem NO.keepsN {w:World} {n:Nd} {A:bC} {G:bJ} {c:Nat->Nat} (h:NO w B n A G c) (hg:g < B) (hk:aC [g] w X):NO X B n A G c:=by
 have hc:KC c 0 w X:=KC.keeps hk (λx hx=>by rw [List.mem_singleton.1 hx];exact h.lo g hg);exact⟨hc.w h.k h.ck Aaa,hc.w h.p h.cp Aaa,hc.own h.o h.co Aaa,hc.seen h.s h.c4 h.ci Aaa Aaa,hc.own h.r h.cr Aaa,h.lo,h.ck,h.cp,h.co,h.c4,h.ci,h.cr,h.ni⟩
def UF (w:World) (R:Nd×Bool) (e:Ending) (w':World):Prop:=∃A',e= .returned (.tuple #[fT R.1 A',.bool R.2])/\(∃gk gs I c,Rx w' A' R.1 gk gs I c/\∀x,x < w.heap.size->c x=0)/\aY w w'/\A'.p=none/\A'.cp=0
theorem RM.zero {w:World}:∃gk gs I c,Rx w ⟨none,none,none,none,none,0,0,0,0,0⟩ jv gk gs I c/\∀x,x < B->c x=0:=
 ⟨0,0,λ_=>0,λ_=>0,⟨GR.W.nil,GR.at_nil _ _,World.ownsRow_nil _ _ _ _,⟨⟨[],GR.W.nil,rfl,λi hi=>by simp[jv] at hi⟩,λh=>by simp[jv] at h⟩,World.ownsRow_nil _ _ _ _,λx hx=>by simp[jv,fp] at hx,λg hg=>by simp at hg,λx hx=>Adf,λx hx=>by simp[jv,fp] at hx,λx hx=>by simp[jv,vR] at hx,λx hx=>Adf,by simp[jv,vR]⟩,λ_ _=>rfl⟩
theorem RM.fresh {w:World} {B2:Nat} {id par:Int} {kv v:Value} {kids fs:List Int} (hk:w.ownsRow B 3 1 kv kids.length (GR.flat aS kids)) (hkl:∀x,kv.ownBlock=some x->x < B2) (hs:w.ownsRow B2 90 3 v fs.length (GR.flat eP (fs.map pz))) (hB:B<=B2):
 ∃A,Value.agg (nnc id par kv v)=fT (dx id par kids fs) A/\(A.p=none/\A.cp=0)/\∃gk gs I c,Rx w A (dx id par kids fs) gk gs I c/\∀x,x < B->c x=0:=by
 obtain⟨a1,c1,g1,rfl,hW1,hr1,ho1⟩:=GR.W.of_own aR hk;have h':w.ownsRow B2 90 3 v (fs.map pz).length (GR.flat eP (fs.map pz)):=by rw [List.length_map];exact hs
 obtain⟨a2,c2,g2,e,hW2,hr2,ho2⟩:=GR.W.of_own eF h';rw [List.length_map] at e;subst e;have hfe:∀x,x∈fp g2 fs->x∈fp g2 (fs.map pz):=λx hx=>by have:=gV hx;rw [this.1];exact dK (by simpa using this.2)
 have hno:∀x,x∈fp g1 kids->x∉fp g2 fs:=λx hx hx2=>by
  have h1:=hkl x (ho1 x hx)
  have h2:=(hr2 x (hfe x hx2)).1
  omega
 have hsq:nR w a2 g2 (λ_=>0) (dx id par kids fs).seen:=by
  refine⟨⟨fs.map pz,hW2,Aaz,λi hi=>?_⟩,λhp=>?_⟩
  .have hi':i < fs.length:=by simpa [dx] using hi
   refine⟨none,0,by simp[hi',pz,dx],?_⟩;have e0:((dx id par kids fs).seen[i]).ids=[]:=Aaz
   rw [e0];exact⟨GR.W.nil,λ_=>rfl,λh=>absurd rfl h⟩
  .have hp':0 < fs.length:=by simpa [dx] using hp
   have hx:=ho2 g2 (dK (by simpa using hp'));rcases h'.2 with⟨_,hn⟩|⟨g',cap,cur,hv,_,hgg,_⟩
   .rw [List.length_map] at hn;omega
   .rw [List.length_map] at hv;rw [hv] at hx;have e3:g'=g2:=Abo
    rw [e3] at hgg;exact⟨cur,hgg⟩
 refine⟨⟨a1,none,none,a2,none,c1,0,0,c2,0⟩,by simp[nnc,fT,dD,dx],⟨rfl,rfl⟩,g1,g2,λ_=>0,λx=>if x∈fp g1 kids then 1 else if x∈fp g2 fs then 4 else 0,⟨hW1,GR.at_nil _ _,World.ownsRow_nil _ _ _ _,hsq,World.ownsRow_nil _ _ _ _,λx hx=>if_pos hx,λg hg=>by simp at hg,λx hx=>Adf,λx hx=>?_,λx hx=>?_,λx hx=>Adf,?_⟩,λx hx=>?_⟩
 .rw [SV (l':=fs) Aaz] at hx;show(if _ then _ else _)=4
  rw [if_neg (λh=>hno x h hx),if_pos hx]
 .simp only[dx] at hx;rw [Vs] at hx;simp at hx
 .simp only[dx];rw [Vs];exact List.nodup_nil
 .show(if _ then _ else _)=0
  rw [if_neg (λh=>by have:=(hr1 x h).1;omega),if_neg (λh=>by have:=(hr2 x (hfe x h)).1;omega)]
theorem M7 (id par:Int) (a:Option Addr) (cap:Nat) (kids:List Int) (w:World) (hl:kids.length<=1048576) (hcap:a=none->cap=0) (ha:dX w a kids):
 Calls prog 13 #[.int .i64 id,.int .i64 par,.slice a kids.length cap] w (UF w (D7 id par kids)):=by
 obtain⟨i0,hi,hz0,hz1,hz2⟩:=info_parts FJ;obtain⟨j0,hj,hy0,hy1,hy2⟩:=info_parts uG;have HA:=Hq ha;have HRB:=Hq (heap_alloc_new w (.cells fU 30));clear ha;obtain⟨RN,hRN⟩:∃R,D7 id par kids=R:=⟨_,rfl⟩;rw [hRN];have HRN:=Hq hRN;clear hRN;unfold UF;go_in
 go_upto_region 1 with fail;refine wp_at (λW0 hW0=>?_);have HR0:Hid (W0.heap[w.heap.size]?=some (.cells fU 30 (0,0))):=by rw [hW0];exact HRB
 have HB0:Hid (aY w W0):=Acx
 have azb:Hid (W0.heap.size=w.heap.size+1):=by rw [hW0];exact Hq Aac
 clear hW0 HRB;have hlit:(W0.alloc (.cells #[] 3)).ownsRow W0.heap.size 3 1 (.slice (some ⟨W0.heap.size,0,none⟩) 0 0) 0 []:=World.ownsRow_lit (base:=W0.heap.size) (e:=3) (size:=1) W0 #[] 0 (Nat.le_refl _) Aae rfl;go_cut [8] (λp8 wx=>∃(nb:Nat) (ka:Option Addr) (kc:Nat),p8= .pointer (some ⟨nb,0,none⟩)/\wx.heap[nb]?=some (.cells (nnc id par (.slice ka kids.length kc) (.slice none 0 0)) 30 (0,0))/\wx.ownsRow W0.heap.size 3 1 (.slice ka kids.length kc) kids.length (GR.flat aS kids)/\(∀x,(Value.slice ka kids.length kc).ownBlock=some x->x < nb)/\W0.heap.size < nb/\aY W0 wx)
 case first=>
  cases a with
  |none=>
   have hl0:kids=[]:=GR.none_nil HA
   subst hl0
   have hc0:=hcap rfl
   subst hc0
   go_wp2_with (at_builtin;refine wpList_append_own_none rfl _ _ 24 rfl W0.heap.size 3 j0 1 underlying24 hj _ 0 [] rfl hlit rfl ?_)
   go_meet
   case rel=>
    refine⟨W0.heap.size+1,some ⟨W0.heap.size,0,none⟩,0,rfl,?_,?_,?_,Aaa,(au W0 _).alloc Aac _⟩
    .have h:=heap_alloc_new (W0.alloc (.cells #[] 3)) (.cells (nnc id par (.slice (some ⟨W0.heap.size,0,none⟩) 0 0) (.slice none 0 0)) 30);rwa [show(W0.alloc (.cells #[] 3)).heap.size=W0.heap.size+1 by simp] at h
    .exact hlit.alloc _
    .intro x hx;have:x=W0.heap.size:=by simpa [Value.ownBlock] using hx.symm
     omega
  |some x=>
   have HN:=Hq (GR.At.news aR Aaa (GR.At.below HA (HB0.trans ((au W0 (.cells #[] 3)).mono HB0.size))))
   go_wp2_with (at_builtin;refine wpList_append_own _ rfl _ _ 24 rfl W0.heap.size 3 j0 (.int .i64 0) 1 8 underlying24 hj hy0 hy1 hy2 rfl Aae _ 0 [] rfl hlit x kids.length cap (GR.flat aS kids) rfl ?c0 ?c1 ?c2 ?c3 ?c4 ?c5 ?_)
   case c0=>exact GR.flat_length aS 1 aR kids
   case c1=>exact HN
   case c2=>exact GR.flat_oneCell Fe kids
   case c3=>unfold maxLen;omega
   case c4=>omega
   case c5=>simp
   intro v' w1 hown' hgrow _
   have ho:w1.ownsRow W0.heap.size 3 1 v' kids.length (GR.flat aS kids):=by simpa using hown'
   have hb:aY W0 w1:=(au W0 _).grown hgrow Aac (λk hk=>Abp)
   have hs1:W0.heap.size+1<=w1.heap.size:=by have:=hgrow.size;simpa using this
   obtain⟨ka,kc,rfl,_⟩:=GR.own_at (enc:=aS) (sz:=1) aR ho
   have HO:=Hq ho
   have HB:=Hq hb
   clear hown' hgrow ho hb hlit
   go_wp2_with fail
   go_meet
   case rel=>exact⟨w1.heap.size,ka,kc,rfl,heap_alloc_new _ _,HO.alloc _,λx hx=>(HO.lt x hx).2,Aaa,HB.alloc HB.size _⟩
 case rest=>
  obtain⟨nb,ka,kc,rfl,hnb,hko,hkl,aCC,hb0⟩:=hcut;have aA1:=ah azb;have Ei:=Hq (GR.own_lower (b':=w.heap.size+1) hko Aaa);have HKL:=Hq hkl;have HR3:=Hq (ay HR0 hb0);have HB3:=Hq (HB0.trans (hb0.mono HB0.size));have Rp:=Hq (show NN wc wc nb id par (.slice ka kids.length kc) (.slice none 0 0) [] from⟨aC.refl _ _,hnb,World.ownsRow_nil _ _ _ _,aA hnb⟩);have aCR:nb < wc.heap.size:=aA hnb;have aCH:w.heap.size < nb:=Aaa
  clear aA1;have HFS:Hid ((dH (dx id par kids [])=true->D7 id par kids=(dx id par kids (nC (dx id par kids []) 30),true)/\dY (dx id par kids (nC (dx id par kids []) 30))=true)/\(dH (dx id par kids [])=false->D7 id par kids=(jv,false)/\dY (dx id par kids (nC (dx id par kids []) 30))=false)):=⟨λh=>⟨aeB h (Qh h),ajV id par kids _ h (Qh h)⟩,λh=>⟨ajU h,ajW id par kids _ h⟩⟩;rw [ah HRN] at HFS;have HNS:=Hq (Qg (dx id par kids []))
  have UL:Hid (∀k,(nC (dx id par kids []) k).length<=k):=λk=>by
   have h:=List.length_filter_le (dV (dx id par kids [])) (upTo k)
   unfold nC
   simpa [upTo] using h
  have Jv:Hid (nC (dx id par kids []) 0=[]):=rfl;have Nu:Hid (∀fs A W x,dX W A.k kids->Calls prog 47 #[fT (dx id par kids fs) A,.int .i64 x] W (fF W (.bool (dV (dx id par kids []) x)))):=λfs A W x h=>AO (dx id par kids fs) A x W (by show kids.length<=1048600;omega) h
  generalize dH (dx id par kids [])=PB at *;generalize dV (dx id par kids [])=NB at *;generalize nC (dx id par kids [])=NU at *;clear hnb hko hkl hb0 HR0 HB0 hlit;go_wp2_with fail;go_loopw [9] (λi wr=>∃(k:Nat) (v:Value),k<=30/\i= .int .i64 k/\NN wc wr nb id par (.slice ka kids.length kc) v (NU k)) (λi _=>30 - (intOf i).toNat)
  case atStart=>exact⟨0,.slice none 0 0,Nat.zero_le _,rfl,by rw [ah Jv];exact Rp⟩
  case round=>
   obtain⟨k,v,hk,rfl,hN⟩:=hrel;have HN:=Hq hN
   have Nv:Hid (wr.ownsRow (w.heap.size+1) 3 1 (.slice ka kids.length kc) kids.length (GR.flat aS kids)):=Ei.kept (row:=some nb) ⟨hN.keep.os,hN.keep.tape,hN.keep.output,hN.keep.size,λj hj hjn=>hN.keep.block j hj (λe=>hjn (by rw [wT e]))⟩ (by
    cases hv:(Value.slice ka kids.length kc).ownBlock with
    |none=>exact .inl rfl
    |some j=>exact .inr (λe=>by have:=ah HKL j hv;injection e with e;omega))
   obtain⟨va,vc,hv,_⟩:=GR.own_at (enc:=eP) (sz:=3) (l:=(NU k).map pz) eF (by rw [List.length_map];exact hN.own);rw [List.length_map] at hv;subst hv;obtain⟨A4,hA4,aeb⟩:=T9 (id:=id) (par:=par) Nv hN.own;have akJ:=Hq (UL k);by_cases hlt:k < 30
   .have HNC:=Hq (Nu (NU k) A4 wr (k:Int) aeb.k);rw [<-hA4] at HNC;have hSU:=ah HNS k;obtain⟨c0,c1,c2,c3,c4,c5,c6,c7,c8⟩:=nine hN.blk;clear hA4 aeb hN;have HSU:=Hq hSU;clear hSU;go_wp2_with fail;refine HNC.mono ?_;rintro e w4 ⟨rfl,hb4⟩;have Wl:=Hq (HN.step hb4);clear hb4 c0 c1 c2 c3 c4 c5 c6 c7 c8 HNC HN Nv;obtain⟨c0,c1,c2,c3,c4,c5,c6,c7,c8⟩:=nine Wl.blk;have hkw:=Wl.keep.size;cases aeg:NB (k:Int)
    .have HE:=Hq (show NU (k+1)=NU k by rw [ah HSU,if_neg (by rw [aeg];simp)]);clear aeg HSU;go_wp2_with fail;go_roundw
     case rel=>exact⟨k+1,.slice va (NU k).length vc,Aaa,Aai,by rw [ah HE];exact Wl⟩
     case measure=>simp[intOf];omega
    .have HE:=Hq (show NU (k+1)=NU k++[(k:Int)] by rw [ah HSU,if_pos (by rw [aeg])]);clear aeg HSU;have hown:=Wl.own;have hf6:=aj Wl.blk 6;have aBm:(NU k).length<=30:=Nat.le_trans akJ hk;go_wp2_with (at_builtin;refine wpList_append_own _ rfl _ _ 27 rfl wc.heap.size 90 i0 (.agg #[.int .i64 0,.int .i64 0,.slice none 0 0]) 3 40 underlying27 hi hz0 hz1 hz2 rfl Aae _ _ _ rfl (hown.alloc _) ⟨w4.heap.size,0,none⟩ 1 1 (eP (pz (k:Int))) rfl rfl ?c1 ?c2 ?c3 ?c4 ?c5 ?_)
     case c1=>exact World.news_of_block (heap_alloc_new w4 _)
     case c2=>exact aj1 _
     case c3=>unfold maxLen;omega
     case c4=>omega
     case c5=>simp;omega
     intro v' w5 hown' hgrow _
     obtain⟨va2,vc2,hv,_⟩:=GR.own_at (enc:=eP) (sz:=3) (l:=(NU k++[(k:Int)]).map pz) eF (by
      have e2:GR.flat eP ((NU k++[(k:Int)]).map pz)=GR.flat eP ((NU k).map pz)++eP (pz (k:Int)):=by rw [List.map_append,GR.flat_append];simp[GR.flat]
      rw [e2,List.length_map,List.length_append]
      exact hown')
     rw [List.length_map,List.length_append] at hv;have hv':v'= .slice va2 ((NU k).length+1) vc2:=hv;clear hv;subst hv';have HA5:=Hq (Wl.app (k:Int) hown' hgrow)
     have hb5:w5.heap[nb]?=some (.cells (nnc id par (.slice ka kids.length kc) (.slice va (NU k).length vc)) 30 (0,0)):=by
      rw [hgrow.block nb Aaf (λe=>by have:=(hown.lt _ e.symm).1;omega),Below.heap_alloc _ _ _ Aaa];exact Wl.blk
     obtain⟨e0,e1,e2,e3,e4,e5,e6,e7,e8⟩:=nine hb5;have g6:=aj hb5 6;clear hown' hgrow hb5 hown c0 c1 c2 c3 c4 c5 c6 c7 c8 hf6;go_wp2_with fail;go_roundw
     case rel=>exact⟨k+1,.slice va2 ((NU k).length+1) vc2,Aaa,Aai,by rw [ah HE];exact HA5⟩
     case measure=>simp[intOf];omega
   .obtain rfl:k=30:=Aaa
    have HR4:Hid (wr.heap[w.heap.size]?=some (.cells fU 30 (0,0))):=hN.keep.obj HR3 Aaf;have lI:Hid (aY w wr):=HB3.trans (hN.keep.below (λx hx=>by have:=wT hx;omega) HB3.size);have lD:=Hq (uU (dx id par kids (NU 30)) A4 wr (aj7 Aaa (by have:=ah akJ;omega)) aeb);rw [<-hA4] at lD;obtain⟨hY,hX⟩:=ah HFS;have HY:=Hq hY;have HX:=Hq hX;obtain⟨c0,c1,c2,c3,c4,c5,c6,c7,c8⟩:=nine hN.blk;clear hN hA4 aeb hY hX HFS;generalize dY (dx id par kids (NU 30))=OK at *;generalize NU 30=F at *;go_wp2_with fail;refine lD.mono ?_;rintro e w5 ⟨rfl,hb5⟩;have HN5:=Hq (HN.step hb5);have xA:=Hq (GR.own_below Nv hb5);have BF:=Hq (ay HR4 hb5);have iX:=Hq (lI.trans (hb5.mono lI.size));clear hb5 c0 c1 c2 c3 c4 c5 c6 c7 c8 lD;obtain⟨c0,c1,c2,c3,c4,c5,c6,c7,c8⟩:=nine HN5.blk;obtain⟨r0,r1,r2,r3,r4,r5,r6,r7,r8⟩:=nine BF;have f0:=aj BF 0;have f1:=aj BF 1;have f2:=aj BF 2;have f3:=aj BF 3;have f4:=aj BF 4;have f5:=aj BF 5;have f6:=aj BF 6;have f7:=aj BF 7;have f8:=aj BF 8;cases hPB:PB
    .obtain⟨e1,e2⟩:=ah HX hPB;subst e1 e2;clear hPB HX HY;go_wp2_with fail;refine aO (λW' hW'=>?_);have hR:=Ae (b0:= .int .i64 0) (b1:= .int .i64 0) (b2:= .slice none 0 0) (b3:= .int .i64 0) (b4:= .slice none 0 0) (b5:= .slice none 0 0) (b6:= .slice none 0 0) (b7:= .int .i64 0) (b8:= .slice none 0 0) BF;have hK:=uN (w:=w5) (g:=w.heap.size) (b0:= .int .i64 0) (b1:= .int .i64 0) (b2:= .slice none 0 0) (b3:= .int .i64 0) (b4:= .slice none 0 0) (b5:= .slice none 0 0) (b6:= .slice none 0 0) (b7:= .int .i64 0) (b8:= .slice none 0 0);rw [<-hW'] at hR hK;obtain⟨x0,x1,x2,x3,x4,x5,x6,x7,x8⟩:=nine hR;refine bodyPost_ret (v:= .tuple #[fT jv ⟨none,none,none,none,none,0,0,0,0,0⟩,.bool false]) (by simp[results,results13,go_sem,x0,x1,x2,x3,x4,x5,x6,x7,x8,jv]) rfl ⟨_,rfl,RM.zero,iX.trans (hK.below (λx hx=>by have:=wT hx;omega) iX.size),rfl,rfl⟩
    .obtain⟨e1,e2⟩:=ah HY hPB;subst e1 e2;clear hPB HX HY;go_wp2_with fail;refine aO (λW' hW'=>?_);have hR:=Ae (b0:= .int .i64 id) (b1:= .int .i64 par) (b2:=(.slice ka kids.length kc)) (b3:= .int .i64 1) (b4:= .slice none 0 0) (b5:= .slice none 0 0) (b6:= .slice va F.length vc) (b7:= .int .i64 0) (b8:= .slice none 0 0) BF;have hK:=uN (w:=w5) (g:=w.heap.size) (b0:= .int .i64 id) (b1:= .int .i64 par) (b2:=(.slice ka kids.length kc)) (b3:= .int .i64 1) (b4:= .slice none 0 0) (b5:= .slice none 0 0) (b6:= .slice va F.length vc) (b7:= .int .i64 0) (b8:= .slice none 0 0);rw [<-hW'] at hR hK;obtain⟨x0,x1,x2,x3,x4,x5,x6,x7,x8⟩:=nine hR;have hBW:=iX.trans (hK.below (B:=w.heap.size) (λx hx=>by have:=wT hx;omega) iX.size);obtain⟨A9,e9,hA9,hRM⟩:=RM.fresh (w:=W') (id:=id) (par:=par) (dG xA hK (λx hx=>by have:=wT hx;omega)) (λx hx=>by have:=ah HKL x hx;omega) (dG HN5.own hK (λx hx=>by have:=wT hx;omega)) (B2:=wc.heap.size) Aaa;have e9':=e9;unfold nnc at e9';refine bodyPost_ret (v:= .tuple #[fT (dx id par kids F) A9,.bool true]) (by rw [<-e9];simp[results,results13,go_sem,x0,x1,x2,x3,x4,x5,x6,x7,x8]) rfl ⟨_,rfl,?_,hBW,hA9⟩;obtain⟨gk,gs,I,c,h1,h2⟩:=hRM;exact⟨gk,gs,I,c,h1,λx hx=>h2 x Aaa⟩
def Bu (w:World) (e:Ending) (w':World):Prop:=∃v RL b,e= .returned (.tuple #[v,.bool b])/\RL.length<=1/\(∀p∈RL,p.k.size<=20)/\w'.ownsRow w.heap.size 143 4 v RL.length (GR.flat fH RL)/\aY w w'
theorem CJ {P:Program} (w:World) {ops:Array Oper} {o:Oper} {a:Act} {K:Act->World->Prop} {Q:Exit->Act->World->Prop} {E:Prop} (hgd:o.guard=none) (s x:Operand) (t:TypeId)
 (ho:o.op= .call {callee:= .builtin .append,args:=#[s,x],argTypes:=#[t,t]})
 (base:Nat) (e:TypeId) (i:TypeInfo) (size:Nat) (ht:P.underlying t=some (.slice e)) (hi:P.info? e=some i)
 (v:Value) (n:Nat) (xs:List Value) (hs:a.eval s=v) (hown:w.ownsRow base e size v n xs)
 (ad:Option Addr) (c:Nat) (hx:a.eval x= .slice ad 0 c) (h:K (a.put o.dst v) w):
 if Region.wanted o (yielded ops a.tmps)=true then Oper.wp P o a w K Q else E:=by
 have hw:Region.wanted o (yielded ops a.tmps)=true:=by simp[Region.wanted,hgd]
 rw [if_pos hw];exact Lib.wp_append_run w s x t t ho v _ hs hx v w (lX w base t o.type e i size ht hi v n xs hown ad c) h
theorem P9 (p:Pu) (n:Int) (w:World) (hpk:p.k.size<=20) (hn:1<=n/\n<=1000000000):
 Calls prog 173 #[.slice none 0 0,Al p,.int .i64 n] w (Bu w):=by
 unfold Bu;have lD:=Hq (λw1=>kZ none 0 [] w1 Aac (λ_ h=>Aar) (GR.at_nil _ _));have hn2:decide (wL n 1 1000000000)=true:=decide_eq_true hn;have hok:jo []=true:=rfl;clear hn;obtain⟨pk,pm,pf,ps⟩:=p;dsimp only at hpk;go_in
 go_wp2_with fail;refine(lD _).mono ?_;open atD in exact agf
theorem TM (key:ByteArray) (df n:Int) (w:World) (hkey:key.size<=20) (hd2:df=1) (hn:1<=n/\n<=30):
 Calls prog 115 #[.slice none 0 0,.string key,.int .i64 0,.int .i64 df,.int .i64 0,.int .i64 n] w (Bu w):=by
 subst hd2;obtain⟨hn1,hn2⟩:=hn;have Ej:=Hq (rM none 0 [] key w Aac (GR.at_nil _ _));have ZK:=Hq (λw1=>P9 ⟨key,0,n,0⟩ n w1 hkey ⟨hn1,Aaa⟩);have hAm:decide (wL n 0 1000000000)=true:=decide_eq_true ⟨Aaa,Aaa⟩;rw [show aG [] key=⟨key,0,0,0⟩ from rfl] at Ej;unfold Bu at *;go_in
 go_wp2_with fail;refine Ej.mono ?_;rintro e w1 ⟨rfl,hb1⟩;have HB1:=Hq hb1;clear hb1 Ej;have z1:(0:Int)*n=0:=Int.zero_mul n;have z2:(1:Int)*n=n:=Int.one_mul n;have z3:(0:Int)+n=n:=Int.zero_add n;go_wp2_with (go_at_call 62;refine(sV _ _).mono ?_;rintro e w2 ⟨rfl,rfl⟩;rw [hAm])
 first
  |refine(ZK _).mono ?_
  |(simp only[z1,z2,z3,Int.add_zero];refine(ZK _).mono ?_)
 rintro e w3 ⟨v,RL,b,rfl,hl,hks,hown,hb3⟩;have HB3:=Hq ((HB1.alloc HB1.size _).trans (hb3.mono (by have:=HB1.size;simp;omega)));have Ei:=Hq (own_lower (b':=w.heap.size) hown (by have:=HB1.size;simp;omega));have HV:=Hq hks;clear hb3 hown hks;go_wp2_with fail;exact bodyPost_ret (v:= .tuple #[v,.bool b]) Adu rfl ⟨v,RL,b,rfl,hl,HV,Ei,HB3⟩
theorem AL (key:ByteArray) (n:Int) (w:World) (hkey:key.size<=20) (hn:1<=n/\n<=30):
 Calls prog 98 #[.slice none 0 0,.string key,.int .i64 n] w (Bu w):=by
 have H:=Hq (TM key 1 n w hkey rfl hn);unfold Bu at *;go_in
 go_wp2_with fail;refine H.mono ?_;rintro e w1 ⟨v,RL,b,rfl,hl,hks,hown,hb⟩;have HV:=Hq hks;have HO:=Hq hown;have HB:=Hq hb;clear hown hb hks;go_wp2_with fail;exact bodyPost_ret (v:= .tuple #[v,.bool b]) (by simp[results,results98,go_sem]) rfl ⟨v,RL,b,rfl,hl,HV,HO,HB⟩
end Go.Proofs.YtacgbldlonoaaaaGreatDoor
