/- Parts. -/
import Derived.Test.YtbolgdleijjgfaaGreatDoorRs30
import Derived.Test.YtbolgdleijjgfaaGreatDoorRs15
namespace Go.Proofs.YtbolgdleijjgfaaGreatDoor
open Go.Proofs.Tryz
open Go.RowKit
open Mth
variable (w0 w:World) (wb:Nat) (n:Nd) (A:bq) (G:aK) (c:Nat->Nat) (v:Value) (L:List Mg) (o:gJ)
theorem WK.setPu {w0 w w':World} {wb:Nat} {n:Nd} {A:bq} {G:aK} {c:Nat->Nat} {v:Value} {L:List Mg} {a:Option Addr} {cp g:Nat} {l:List Pu} (h:WK w0 w wb n A G c v L) (hb:aH w w') (hw:GR.W fu 4 w' a g l) (hg:∀x∈fp g l,w.heap.size<=x):
 WK w0 (w'.setCell ⟨wb,4,none⟩ (.slice a l.length cp)) wb (setPu n l) ⟨A.k,a,A.o,A.s,A.r,A.ck,cp,A.co,A.cs,A.cr⟩ ⟨G.k,g,G.o,G.s,G.r,G.i⟩ (newC w.heap.size 2 c) v L:=by
 have hwb:=ay h.blk;have h1:=(h.recol (c':=newC w.heap.size 2 c) (λx hx=>fC hx)).step hb;have hk:KC (newC w.heap.size 2 c) 8 w' (w'.setCell ⟨wb,4,none⟩ (.slice a l.length cp)):=KC.set h1.cw;have h2:=h1.no.kc hk Aaa;have hcp:∀x∈fp g l,newC w.heap.size 2 c x=2:=λx hx=>aX (hg x hx)
 refine⟨hk.below h1.keep h1.no.lo Aaa h1.keep.size,?_,⟨h2.k,hk.w hw hcp (show(2:Nat)≠8 by omega),h2.o,h2.s,h2.r,h2.lo,h2.ck,hcp,h2.co,h2.c4,h2.ci,h2.cr,h2.ni⟩,hk.own h1.m h1.cm Aaa,h1.cm,h1.cw⟩;exact aN h1.blk 4 (.slice a l.length cp)
set_option maxHeartbeats 4000000
set_option maxRecDepth 100000
theorem CJ (wb:Nat) (a:Option Addr) (len cp:Nat) (w:World):Calls prog 214 #[.pointer (some ⟨wb,0,none⟩),.slice a len cp,.bool false] w λe w'=>e= .returned (.bool false)/\w=w':=by
 go_in
 exact OW
theorem zn (wb:Nat) (n:Nd) (A:bq) (v:Value) (a:Option Addr) (len cp:Nat) (w:World) (h:w.heap[wb]?=some (.cells (Xq n A v) 215 (0,0))):Calls prog 214 #[.pointer (some ⟨wb,0,none⟩),.slice a len cp,.bool true] w λe w'=>e= .returned (.bool true)/\w.setCell ⟨wb,4,none⟩ (.slice a len cp)=w':=by
 obtain⟨c0,c1,c2,c3,c4,c5,c6,c7,c8,c9⟩:=jN h;have f4:=aC h 4;clear h;go_in
 exact OW
theorem Xi {w0 w x:World} {wb:Nat} {n:Nd} {A:bq} {G:aK} {c:Nat->Nat} {v:Value} {L:List Mg} (h:WK w0 w wb n A G c v L) {r:List Pu×Bool} {a:Option Addr} {cp g:Nat} (hb:aH w x) (hg:w.heap.size<=g) (hp:xV x a g r.1):
 Calls prog 214 #[.pointer (some ⟨wb,0,none⟩),.slice a r.1.length cp,.bool r.2] x λe w'=>e= .returned (.bool r.2)/\∃A' G' c',WK w0 w' wb (if r.2=true then setPu n r.1 else n) A' G' c' v L:=by
 obtain⟨l,b⟩:=r;cases b with
 |false=>
  refine(CJ wb a l.length cp x).mono ?_;rintro e w' ⟨rfl,rfl⟩;exact⟨rfl,A,G,c,h.step hb⟩
 |true=>
  refine(zn wb n A v a l.length cp x (h.step hb).blk).mono ?_;rintro e w' ⟨rfl,rfl⟩;exact⟨rfl,_,_,_,h.setPu hb hp (λy hy=>by rw [(cu hy).1];exact hg)⟩
def vL (n:Nd) (o:gJ):Nd×Int:=if n.par= -1/\(dw n.pu o.k 1 1 0 o.n).2=true then(setPu n (dw n.pu o.k 1 1 0 o.n).1,0) else(n,1)
theorem ZT (hpar:¬n.par= -1) (h:WK w0 w wb n A G c v L):
 Calls prog 199 #[.pointer (some ⟨wb,0,none⟩),jP o] w λe w'=>e= .returned (.int .i64 (vL n o).2)/\∃A' G' c',WK w0 w' wb (vL n o).1 A' G' c' v L:=by
 have hR:vL n o=(n,1):=aEX (λhx=>hpar hx.1);rw [hR];have hq:(n.par != -1)=true:=Abg
 have hq2:(n.par == -1)=false:=Abg
 have HW:=Hq h;obtain⟨K,no,k,nn,⟨mK,mF,mT,mI,mL,mk,mN⟩⟩:=o;open aoI in exact XL
theorem Vd (E:Nat->Addr) (hz:eF n 1048576) (hk:o.k.size<=1048576) (hpar:n.par= -1) (h:WK w0 w wb n A G c v L) (he:gY w0 E):
 Calls prog 199 #[.pointer (some ⟨wb,0,none⟩),jP o] w λe w'=>e= .returned (.int .i64 (vL n o).2)/\∃A' G' c',WK w0 w' wb (vL n o).1 A' G' c' v L:=by
 have hR:vL n o=((if (dw n.pu o.k 1 1 0 o.n).2=true then setPu n (dw n.pu o.k 1 1 0 o.n).1 else n),(if (dw n.pu o.k 1 1 0 o.n).2=true then 0 else 1)):=by
  unfold vL;cases hb:(dw n.pu o.k 1 1 0 o.n).2<;>simp[hpar]
 rw [hR];have hq:(n.par != -1)=false:=Abg
 have hq2:(n.par == -1)=true:=Abg
 have HW:=Hq h;have HMI:=Hq (λw1 (hb:aH w w1)=>acp A.p A.cp n.pu o.k o.n E w1 hz.p hz.pk hk (GR.At.below h.no.p.at hb) (he.below (h.keep.trans (hb.mono h.keep.size))));unfold jS at HMI;obtain⟨K,no,k,nn,⟨mK,mF,mT,mI,mL,mk,mN⟩⟩:=o;dsimp only at HMI ⊢;generalize dw n.pu k 1 1 0 nn=r at *;open aoH in exact XL
theorem alM (E:Nat->Addr) (hz:eF n 1048576) (hk:o.k.size<=1048576) (h:WK w0 w wb n A G c v L) (he:gY w0 E):
 Calls prog 199 #[.pointer (some ⟨wb,0,none⟩),jP o] w λe w'=>e= .returned (.int .i64 (vL n o).2)/\∃A' G' c',WK w0 w' wb (vL n o).1 A' G' c' v L:=by
 by_cases hpar:n.par= -1
 .exact Vd w0 w wb n A G c v L o E hz hk hpar h he
 .exact ZT w0 w wb n A G c v L o hpar h
end Go.Proofs.YtbolgdleijjgfaaGreatDoor

namespace Go.Proofs.YtbolgdleijjgfaaGreatDoor
open Go.Proofs.Tryz
set_option maxHeartbeats 4000000
set_option maxRecDepth 100000
open Go.RowKit
open Mth
variable (w0 w:World) (wb:Nat) (n:Nd) (A:bq) (G:aK) (c:Nat->Nat) (v:Value) (L:List Mg) {s:ByteArray} {o:gJ}
theorem WK.app {w0 w w6:World} {wb:Nat} {n:Nd} {A:bq} {G:aK} {c:Nat->Nat} {v v':Value} {L:List Mg} (h:WK w0 w wb n A G c v L) (m:Mg) (hown:w6.ownsRow w0.heap.size 70 7 v' (L.length+1) (GR.flat jh L++jh m)) (hg:w.grownBy w6 v.ownBlock) (hv:∀x,v'.ownBlock=some x->v.ownBlock=some x\/w.heap.size<=x):
 w6.heap[wb]?=some (.cells (Xq n A v) 215 (0,0))/\WK w0 (w6.setCell ⟨wb,9,none⟩ v') wb n A G (newC w.heap.size 7 c) v' (L++[m]):=by
 have h1:=h.recol (c':=newC w.heap.size 7 c) (λx hx=>fC hx);have hk1:KC (newC w.heap.size 7 c) 7 w w6:=KC.grown hg h1.cm;have hblk:=hk1.obj h1.blk (by rw [h1.cw];omega);have hno:=h1.no.kc hk1 Aaa;have hkeep:=hk1.below h1.keep h1.no.lo Aaa h1.keep.size;have hk2:KC (newC w.heap.size 7 c) 8 w6 (w6.setCell ⟨wb,9,none⟩ v'):=KC.set h1.cw
 have hcm:∀x,v'.ownBlock=some x->newC w.heap.size 7 c x=7:=λx hx=>by
  rcases hv x hx with hx'|hx'
  .exact h1.cm x hx'
  .exact aX hx'
 refine⟨hblk,hk2.below hkeep h1.no.lo Aaa hkeep.size,aN hblk 9 v',hno.kc hk2 Aaa,?_,hcm,h1.cw⟩;rw [aER,jk];exact hk2.own hown hcm Aaa
theorem Xp (m:Mg) (hk:m.k.size<=1048600) (hL:L.length<=2097200) (h:WK w0 w wb n A G c v L):
 Calls prog 220 #[.pointer (some ⟨wb,0,none⟩),nZ m] w λe w'=>e= .returned (.tuple #[])/\∃c' v',WK w0 w' wb n A G c' v' (L++[m]):=by
 obtain⟨i0,hi,hz0,hz1,hz2⟩:=aFm WH;have HS:=Hq h;clear h;obtain⟨va,vc,hv,_⟩:=GR.own_at (enc:=jh) (sz:=7) (l:=L) jT HS.m;subst hv;obtain⟨mK,mF,mT,mI,mL,mk,mN⟩:=m;dsimp only at hk;have HX0:=Hq (aEK w (.cells (bQ mK mF mT mI mL mk mN) 70));go_in
 go_wp2_with fail;refine(clone mk _ Aaa).mono ?_;rintro e w1 ⟨rfl,hb1⟩;have zC:=Hq (aj HX0 hb1);have HB1:=Hq ((au w _).trans (hb1.mono Aac));clear hb1 HX0;have Yt:=aC zC 5;obtain⟨x0,x1,x2,x3,x4,x5,x6⟩:=jM zC;go_upto_region 2 with fail;refine wp_at (λW hW=>?_);have HXW:Hid (W.heap[w.heap.size]?=some (.cells (bQ mK mF mT mI mL mk mN) 70 (0,0))):=by rw [hW];exact aN zC 5 (.string mk)
 have iK:Hid (aH w W):=by rw [hW];exact HB1.setCell (p:=⟨w.heap.size,5,none⟩) (aEM _) _
 clear hW HB1 zC Yt x0 x1 x2 x3 x4 x5 x6;have HSW:=Hq (HS.step iK);have hwl:=ay HS.blk;have hne:wb≠w.heap.size:=Aaa
 have hlW:=ay HXW;obtain⟨x0,x1,x2,x3,x4,x5,x6⟩:=jM HXW;obtain⟨c0,c1,c2,c3,c4,c5,c6,c7,c8,c9⟩:=jN HSW.blk;have y9:=aEL c9;have z0:=aEL x0;have z1:=aEL x1;have z2:=aEL x2;have z3:=aEL x3;have z4:=aEL x4;have z5:=aEL x5;have z6:=aEL x6;clear x0 x1 x2 x3 x4 x5 x6 c0 c1 c2 c3 c4 c5 c6 c7 c8 c9;refine mO Aab ?_;show wW _ _ _ _ 11 (Array.replicate 11 false) _ _
 open aqD in exact aj7
set_option maxHeartbeats 4000000
def Ho (n:Nd) (o:gJ):List Mg×Int:=if n.par= -1 then([],1) else([KW n o],0)
theorem alO (o:gJ) (hk:o.k.size<=1048576) (hL:L.length<=2097100) (h:WK w0 w wb n A G c v L):
 Calls prog 202 #[.pointer (some ⟨wb,0,none⟩),jP o] w λe w'=>e= .returned (.int .i64 (Ho n o).2)/\∃c' v',WK w0 w' wb n A G c' v' (L++(Ho n o).1):=by
 have HSY:=Hq (λW c v (hW:WK w0 W wb n A G c v L)=>Xp w0 W wb n A G c v L (KW n o) (by show o.k.size<=1048600;omega) Aaa hW);unfold KW at HSY;have hwl:=ay h.blk;have hne:wb≠w.heap.size:=Aaa
 by_cases hpar:n.par= -1
 .have hR:Ho n o=([],1):=aE7 hpar;rw [hR];open aud in exact aaM
 .have hR:Ho n o=([KW n o],0):=aEX hpar;rw [hR];unfold KW;obtain⟨K,no,k,nn,⟨mK,mF,mT,mI,mL,mk,mN⟩⟩:=o;dsimp only at HSY ⊢;open aoJ in exact XL
theorem Av (hs:keyOk s.data.toList=true):s.size<=1048576:=by
 rcases Classical.em (1<=s.data.toList.length/\s.data.toList.length<=10) with h|h
 .have e:s.size=s.data.toList.length:=by rw [aFu];rfl
  omega
 .rw [keyOk_len _ h] at hs;cases hs
theorem afF {n:Nd} (hok:dR n=true):eF n 1048576:=by
 obtain⟨h1,h2,h3,h4,h5,h6⟩:=bE hok;have hq:=iT h6;have ho:=sZ h5;have hn:=wM h1;have hpl:=h1;unfold eu at hpl;simp only[aES,aFa] at hpl;have htl:=h3;unfold oC at htl;rw [aES,aFa] at htl;have hps:=(jW n.pu).1 h2;refine⟨Aaa,Aaa,Aaa,by split at htl<;>omega,Aaa,λx hx=>?_,λx hx=>?_,λx hx=>?_,λx hx=>?_⟩
 .grind [iB,Av]
 .grind [wN,Av]
 .have:=Bh hok x hx;unfold vX at this;grind
 .exact Av (jY (hq.2.2.1 x hx)).2.2.1
theorem aya {n:Nd} (hz:eF n 1048576):eF (doN n o).1 1048576:=by
 cases hok:dR n
 .rw [LK hok];exact hz
 .exact afF (WY hok)
namespace Mth
def gN (n:Nd) (L:List gJ):Nd:=L.foldl (λm o=>(doN m o).1) n
theorem Kt {n:Nd} {L:List gJ} {k:Nat} (hk:k < L.length):gN n (L.take (k+1))=(doN (gN n (L.take k)) L[k]).1:=by
 unfold gN;rw [aEV hk,List.foldl_append];rfl
theorem adf {n:Nd} (h:dR n=false) (L:List gJ):gN n L=n:=by
 induction L with
 |nil=>rfl
 |cons o L ih=>
  have e:gN n (o::L)=gN (doN n o).1 L:=rfl;rw [e,LK h];exact ih
theorem Xc {n:Nd} (h:dR n=true) (L:List gJ):dR (gN n L)=true:=by
 induction L generalizing n with
 |nil=>exact h
 |cons o L ih=>exact ih (WY h)
theorem M0 {n:Nd} (h:eF n 1048576) (L:List gJ):eF (gN n L) 1048576:=by
 induction L generalizing n with
 |nil=>exact h
 |cons o L ih=>exact ih (aya h)
theorem azI {a:Nat} (h:Eh s a=true):bH (opC (Ig s a))=true:=by
 have hg:=(uf h).2.2.2.2.2.1;grind [kW]
theorem KF (s:ByteArray):∀(f a:Nat),a<=s.size->(tH s f a).1.length+a<=s.size
 |0,a,h=>by simpa [tH] using h
 |f+1,a,h=>by
  unfold tH
  split
  .rename_i hs
   obtain⟨p1,_,_,p2,p3,_⟩:=uf hs;have:=KF s f (IB s a).toNat Aaa;rw [aF9];omega
  .simpa using h
theorem QO (s:ByteArray):∀(f a:Nat),∀o∈(tH s f a).1,bH o=true
 |0,_,o,h=>by simp[tH] at h
 |f+1,a,o,h=>by
  unfold tH at h
  split at h
  .rename_i hs
   rcases aE8.1 h with rfl|h
   .exact azI hs
   .exact QO s f _ o h
  .simp at h
theorem ali (h:s.toList=[]):s.size<=1048576:=by
 have e:s=ByteArray.empty:=toList_inj (h.trans (by decide+kernel));rw [e];decide
theorem Xa (h:bH o=true):o.k.size<=1048576/\o.m.k.size<=1048576:=by
 grind [bV,bH,lU,Av,ali]
theorem QJ (s:ByteArray):∀o∈(gF s).1,bH o=true:=by
 unfold gF;split
 .exact QO s _ _
 .intro o h;simp at h
theorem Kw (s:ByteArray):(gF s).1.length<=60000:=by
 unfold gF;split
 .rename_i h
  have:=KF s (s.size+1) 0 (aE1 _);omega
 .simp
end Mth
end Go.Proofs.YtbolgdleijjgfaaGreatDoor
