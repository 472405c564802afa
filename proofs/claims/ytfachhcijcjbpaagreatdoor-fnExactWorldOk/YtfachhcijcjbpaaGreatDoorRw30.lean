/- Parts. -/
import Derived.Test.YtfachhcijcjbpaaGreatDoorRw28
import Derived.Test.YtfachhcijcjbpaaGreatDoorRw17
import Derived.Test.YtfachhcijcjbpaaGreatDoorRw16
namespace Go.Proofs.YtfachhcijcjbpaaGreatDoor
open Go.Proofs.Tryz
open Go.RowKit
open Mth
variable (w0 w:World) (wb:Nat) (n:Nd) (A:bg) (G:aR) (c:Nat->Nat) (v:Value) (L:List Mg) (o:gD)
theorem WK.setPu {w0 w w':World} {wb:Nat} {n:Nd} {A:bg} {G:aR} {c:Nat->Nat} {v:Value} {L:List Mg} {a:Option Addr} {cp g:Nat} {l:List Pu} (h:WK w0 w wb n A G c v L) (hb:aG w w') (hw:GR.W fO 4 w' a g l) (hg:∀x∈fp g l,w.heap.size<=x):
 WK w0 (w'.setCell ⟨wb,4,none⟩ (.slice a l.length cp)) wb (setPu n l) ⟨A.k,a,A.o,A.s,A.r,A.ck,cp,A.co,A.cs,A.cr⟩ ⟨G.k,g,G.o,G.s,G.r,G.i⟩ (newC w.heap.size 2 c) v L:=by
 have hwb:=ay h.blk;have h1:=(h.recol (c':=newC w.heap.size 2 c) (λx hx=>eY hx)).step hb;have hk:KC (newC w.heap.size 2 c) 8 w' (w'.setCell ⟨wb,4,none⟩ (.slice a l.length cp)):=KC.set h1.cw;have h2:=h1.no.kc hk Aaa;have hcp:∀x∈fp g l,newC w.heap.size 2 c x=2:=λx hx=>aY (hg x hx)
 refine⟨hk.below h1.keep h1.no.lo Aaa h1.keep.size,?_,⟨h2.k,hk.w hw hcp (show(2:Nat)≠8 by omega),h2.o,h2.s,h2.r,h2.lo,h2.ck,hcp,h2.co,h2.c4,h2.ci,h2.cr,h2.ni⟩,hk.own h1.m h1.cm Aaa,h1.cm,h1.cw⟩;exact aT h1.blk 4 (.slice a l.length cp)
set_option maxHeartbeats 4000000
set_option maxRecDepth 100000
theorem Cw (wb:Nat) (a:Option Addr) (len cp:Nat) (w:World):Calls prog 219 #[.pointer (some ⟨wb,0,none⟩),.slice a len cp,.bool false] w λe w'=>e= .returned (.bool false)/\w=w':=by
 go_in
 exact ER
theorem zk (wb:Nat) (n:Nd) (A:bg) (v:Value) (a:Option Addr) (len cp:Nat) (w:World) (h:w.heap[wb]?=some (.cells (XB n A v) 254 (0,0))):Calls prog 219 #[.pointer (some ⟨wb,0,none⟩),.slice a len cp,.bool true] w λe w'=>e= .returned (.bool true)/\w.setCell ⟨wb,4,none⟩ (.slice a len cp)=w':=by
 obtain⟨c0,c1,c2,c3,c4,c5,c6,c7,c8,c9⟩:=jB h;have f4:=aA h 4;clear h;go_in
 exact ER
theorem Xt {w0 w x:World} {wb:Nat} {n:Nd} {A:bg} {G:aR} {c:Nat->Nat} {v:Value} {L:List Mg} (h:WK w0 w wb n A G c v L) {r:List Pu×Bool} {a:Option Addr} {cp g:Nat} (hb:aG w x) (hg:w.heap.size<=g) (hp:xC x a g r.1):
 Calls prog 219 #[.pointer (some ⟨wb,0,none⟩),.slice a r.1.length cp,.bool r.2] x λe w'=>e= .returned (.bool r.2)/\∃A' G' c',WK w0 w' wb (if r.2=true then setPu n r.1 else n) A' G' c' v L:=by
 obtain⟨l,b⟩:=r;cases b with
 |false=>
  refine(Cw wb a l.length cp x).mono ?_;rintro e w' ⟨rfl,rfl⟩;exact⟨rfl,A,G,c,h.step hb⟩
 |true=>
  refine(zk wb n A v a l.length cp x (h.step hb).blk).mono ?_;rintro e w' ⟨rfl,rfl⟩;exact⟨rfl,_,_,_,h.setPu hb hp (λy hy=>by rw [(dz hy).1];exact hg)⟩
def uY (n:Nd) (o:gD):Nd×Int:=if n.par= -1/\(cK n.pu o.k 1 1 0 o.n).2=true then(setPu n (cK n.pu o.k 1 1 0 o.n).1,0) else(n,1)
theorem aac (hpar:¬n.par= -1) (h:WK w0 w wb n A G c v L):
 Calls prog 204 #[.pointer (some ⟨wb,0,none⟩),jF o] w λe w'=>e= .returned (.int .i64 (uY n o).2)/\∃A' G' c',WK w0 w' wb (uY n o).1 A' G' c' v L:=by
 have hR:uY n o=(n,1):=aEG (λhx=>hpar hx.1);rw [hR];have hq:(n.par != -1)=true:=Abd
 have hq2:(n.par == -1)=false:=Abd
 have HW:=Hq h;obtain⟨K,no,k,nn,⟨mK,mF,mT,mI,mL,mk,mN⟩⟩:=o;open aoE in exact XT
theorem Vy (E:Nat->Addr) (hz:eH n 1048576) (hk:o.k.size<=1048576) (hpar:n.par= -1) (h:WK w0 w wb n A G c v L) (he:gX w0 E):
 Calls prog 204 #[.pointer (some ⟨wb,0,none⟩),jF o] w λe w'=>e= .returned (.int .i64 (uY n o).2)/\∃A' G' c',WK w0 w' wb (uY n o).1 A' G' c' v L:=by
 have hR:uY n o=((if (cK n.pu o.k 1 1 0 o.n).2=true then setPu n (cK n.pu o.k 1 1 0 o.n).1 else n),(if (cK n.pu o.k 1 1 0 o.n).2=true then 0 else 1)):=by
  unfold uY;cases hb:(cK n.pu o.k 1 1 0 o.n).2<;>simp[hpar]
 rw [hR];have hq:(n.par != -1)=false:=Abd
 have hq2:(n.par == -1)=true:=Abd
 have HW:=Hq h;have HMI:=Hq (λw1 (hb:aG w w1)=>acv A.p A.cp n.pu o.k o.n E w1 hz.p hz.pk hk (GR.At.below h.no.p.at hb) (he.below (h.keep.trans (hb.mono h.keep.size))));unfold jK at HMI;obtain⟨K,no,k,nn,⟨mK,mF,mT,mI,mL,mk,mN⟩⟩:=o;dsimp only at HMI ⊢;generalize cK n.pu k 1 1 0 nn=r at *;open aoD in exact XT
theorem al0 (E:Nat->Addr) (hz:eH n 1048576) (hk:o.k.size<=1048576) (h:WK w0 w wb n A G c v L) (he:gX w0 E):
 Calls prog 204 #[.pointer (some ⟨wb,0,none⟩),jF o] w λe w'=>e= .returned (.int .i64 (uY n o).2)/\∃A' G' c',WK w0 w' wb (uY n o).1 A' G' c' v L:=by
 by_cases hpar:n.par= -1
 .exact Vy w0 w wb n A G c v L o E hz hk hpar h he
 .exact aac w0 w wb n A G c v L o hpar h
end Go.Proofs.YtfachhcijcjbpaaGreatDoor

namespace Go.Proofs.YtfachhcijcjbpaaGreatDoor
open Go.Proofs.Tryz
set_option maxHeartbeats 4000000
set_option maxRecDepth 100000
open Go.RowKit
open Mth
variable (w0 w:World) (wb:Nat) (n:Nd) (A:bg) (G:aR) (c:Nat->Nat) (v:Value) (L:List Mg) {s:ByteArray} {o:gD}
theorem WK.app {w0 w w6:World} {wb:Nat} {n:Nd} {A:bg} {G:aR} {c:Nat->Nat} {v v':Value} {L:List Mg} (h:WK w0 w wb n A G c v L) (m:Mg) (hown:w6.ownsRow w0.heap.size 104 7 v' (L.length+1) (GR.flat lQ L++lQ m)) (hg:w.grownBy w6 v.ownBlock) (hv:∀x,v'.ownBlock=some x->v.ownBlock=some x\/w.heap.size<=x):
 w6.heap[wb]?=some (.cells (XB n A v) 254 (0,0))/\WK w0 (w6.setCell ⟨wb,9,none⟩ v') wb n A G (newC w.heap.size 7 c) v' (L++[m]):=by
 have h1:=h.recol (c':=newC w.heap.size 7 c) (λx hx=>eY hx);have hk1:KC (newC w.heap.size 7 c) 7 w w6:=KC.grown hg h1.cm;have hblk:=hk1.obj h1.blk (by rw [h1.cw];omega);have hno:=h1.no.kc hk1 Aaa;have hkeep:=hk1.below h1.keep h1.no.lo Aaa h1.keep.size;have hk2:KC (newC w.heap.size 7 c) 8 w6 (w6.setCell ⟨wb,9,none⟩ v'):=KC.set h1.cw
 have hcm:∀x,v'.ownBlock=some x->newC w.heap.size 7 c x=7:=λx hx=>by
  rcases hv x hx with hx'|hx'
  .exact h1.cm x hx'
  .exact aY hx'
 refine⟨hblk,hk2.below hkeep h1.no.lo Aaa hkeep.size,aT hblk 9 v',hno.kc hk2 Aaa,?_,hcm,h1.cw⟩;rw [aEC,iX];exact hk2.own hown hcm Aaa
theorem XA (m:Mg) (hk:m.k.size<=1048600) (hL:L.length<=2097200) (h:WK w0 w wb n A G c v L):
 Calls prog 225 #[.pointer (some ⟨wb,0,none⟩),nT m] w λe w'=>e= .returned (.tuple #[])/\∃c' v',WK w0 w' wb n A G c' v' (L++[m]):=by
 obtain⟨i0,hi,hz0,hz1,hz2⟩:=aEY Xd;have HS:=Hq h;clear h;obtain⟨va,vc,hv,_⟩:=GR.own_at (enc:=lQ) (sz:=7) (l:=L) qX HS.m;subst hv;obtain⟨mK,mF,mT,mI,mL,mk,mN⟩:=m;dsimp only at hk;have HX0:=Hq (aEu w (.cells (bH mK mF mT mI mL mk mN) 104));go_in
 go_wp2_with fail;refine(clone mk _ Aaa).mono ?_;rintro e w1 ⟨rfl,hb1⟩;have BI:=Hq (aj HX0 hb1);have HB1:=Hq ((au w _).trans (hb1.mono Aac));clear hb1 HX0;have Yr:=aA BI 5;obtain⟨x0,x1,x2,x3,x4,x5,x6⟩:=jA BI;go_upto_region 2 with fail;refine wp_at (λW hW=>?_);have HXW:Hid (W.heap[w.heap.size]?=some (.cells (bH mK mF mT mI mL mk mN) 104 (0,0))):=by rw [hW];exact aT BI 5 (.string mk)
 have gK:Hid (aG w W):=by rw [hW];exact HB1.setCell (p:=⟨w.heap.size,5,none⟩) (aEx _) _
 clear hW HB1 BI Yr x0 x1 x2 x3 x4 x5 x6;have HSW:=Hq (HS.step gK);have hwl:=ay HS.blk;have hne:wb≠w.heap.size:=Aaa
 have hlW:=ay HXW;obtain⟨x0,x1,x2,x3,x4,x5,x6⟩:=jA HXW;obtain⟨c0,c1,c2,c3,c4,c5,c6,c7,c8,c9⟩:=jB HSW.blk;have y9:=aEv c9;have z0:=aEv x0;have z1:=aEv x1;have z2:=aEv x2;have z3:=aEv x3;have z4:=aEv x4;have z5:=aEv x5;have z6:=aEv x6;clear x0 x1 x2 x3 x4 x5 x6 c0 c1 c2 c3 c4 c5 c6 c7 c8 c9;refine l7 Aab ?_;show wH _ _ _ _ 11 (Array.replicate 11 false) _ _
 open aqF in exact akd
set_option maxHeartbeats 4000000
def Ht (n:Nd) (o:gD):List Mg×Int:=if n.par= -1 then([],1) else([Lj n o],0)
theorem al2 (o:gD) (hk:o.k.size<=1048576) (hL:L.length<=2097100) (h:WK w0 w wb n A G c v L):
 Calls prog 207 #[.pointer (some ⟨wb,0,none⟩),jF o] w λe w'=>e= .returned (.int .i64 (Ht n o).2)/\∃c' v',WK w0 w' wb n A G c' v' (L++(Ht n o).1):=by
 have HSY:=Hq (λW c v (hW:WK w0 W wb n A G c v L)=>XA w0 W wb n A G c v L (Lj n o) (by show o.k.size<=1048600;omega) Aaa hW);unfold Lj at HSY;have hwl:=ay h.blk;have hne:wb≠w.heap.size:=Aaa
 by_cases hpar:n.par= -1
 .have hR:Ht n o=([],1):=aER hpar;rw [hR];open atD in exact aaP
 .have hR:Ht n o=([Lj n o],0):=aEG hpar;rw [hR];unfold Lj;obtain⟨K,no,k,nn,⟨mK,mF,mT,mI,mL,mk,mN⟩⟩:=o;dsimp only at HSY ⊢;open aoF in exact XT
set_option maxHeartbeats 2000000
open Go.RowKit Go.Maps Go.Sort
theorem alE (m:Nat):AnyZI.SortsIn prog Tryz.sortedL_ren Fence.wide m:=
 ⟨λblk off cap ss W hH hblk hsz=>callsIn_wide.2 (AnyM.slices_Sort_int Tryz.sortL blk off cap ss W hH hblk hsz),
  λp cap W=>callsIn_wide.2 (AnyM.slices_Sort_int_none Tryz.sortL p cap W)⟩
theorem afx (mb:Option Nat) (W:World):Calls prog 286 #[.map mb] W λe w'=>e= .returned (.func (.func 303) #[] #[.pointer (some ⟨W.heap.size,0,none⟩)])/\w'=W.alloc (.cells #[.map mb] 341):=
 callsIn_wide.1 (AnyZI.keys_in Tryz.keysL Fence.wide 5 trivial rfl mb W)
theorem adH {l ss:List Int} (hp:l.Pairwise (· < ·)) (h:ss.Perm l):ss.mergeSort (λx y=>decide (x<=y))=l:=by
 have h1:ss.mergeSort leI=l.mergeSort leI:=mergeSort_of_perm_i h;refine h1.trans (List.mergeSort_of_pairwise ?_);exact hp.imp (λ{a b} h=>by simp only[leI,aES];omega)
theorem Zw (B mb n:Nat) (l:List Int) (W:World) (hl:l.length<=1000) (hp:l.Pairwise (· < ·)) (hB:W.heap[B]?=some (.cells #[.map (some mb)] 341 (0,0))) (hs:fq W mb n l):
 Calls prog 285 #[.func (.func 303) #[] #[.pointer (some ⟨B,0,none⟩)]] W λe w'=>∃v,e= .returned v/\w'.ownsRow W.heap.size 3 1 v l.length (GR.flat aW l)/\aG W w':=by
 obtain⟨D,hown,ha⟩:=hs;have hk:=fq.keys hown ha (hp.imp (λh=>Aaa));have hsz:Maps.size D=l.length:=by rw [KU hown,hk.length_eq]
 have hcell:W.cell? ⟨B,0,none⟩=some (.map (some mb)):=aEz W B 0 _ _ (0,0) hB
 have hseq:SeqGives Fence.wide 2 prog 303 #[.pointer (some ⟨B,0,none⟩)] encZ (λss=>ss.Perm (intKeys D)) (Maps.size D) W:=
  AnyZI.keys_gives (ρ:=Tryz.keysL_ren) {Tryz.keysL with} Fence.wide _ trivial rfl Aaa B mb n D _ (ay hB) hcell hown
 have cS:=AnyZI.sorted_in Tryz.sortedL Fence.wide 5 trivial trivial trivial trivial rfl Aaa (alE _) (enters_of func214 Aab rfl) 303 #[.pointer (some ⟨B,0,none⟩)] trivial (enters_of func303 Aab rfl) _ _ (by rw [hsz];unfold maxLen;omega) (by rw [hsz];omega) _ hseq;change CallsIn _ _ prog 285 _ _ _ at cS
 refine(callsIn_wide.1 cS).mono ?_;rintro e w' ⟨v,ss,rfl,hS,hrow,_,hb⟩;have hperm:ss.Perm l:=hS.trans hk.symm;rw [adH hp hperm,hperm.length_eq,<-Fh] at hrow;exact⟨v,rfl,hrow,hb⟩
theorem Zo (sb mb n:Nat) (f low:Int) (l:List Int) (w:World) (hl:l.length<=1000) (hp:l.Pairwise (· < ·)) (hb:kR w sb mb low) (hs:fq w mb n l):
 Calls prog 257 #[.pointer (some ⟨sb,0,none⟩),.int .i64 f] w λe w'=>∃v,e= .returned (.agg #[.int .i64 f,.int .i64 low,v])/\w'.ownsRow w.heap.size 3 1 v l.length (GR.flat aW l)/\aG w w':=by
 have hsl:=ay hb;have HB:=Hq hb;have HS:=Hq hs;have Ti:=Hq afx;have HSO:=Hq (λB W (h1:W.heap[B]?=_) (h2:fq W mb n l)=>Zw B mb n l W hl hp h1 h2);have hb1:=aj hb (au w (.cells #[.int .i64 0,.int .i64 0,.slice none 0 0] 144));obtain⟨⟨m0,m1⟩,_⟩:=lY hb1;clear hb hs hb1;go_in
 go_upto_region 1 with fail;have y0:=aEv m0;have y1:=aEv m1;clear m0 m1;refine rg 12 Ge 13 ?_;refine tk [0,1,2,3,4,5,6,7,8] ?_;iterate 9 (refine iy (λK hK=>?_);go_simp;refine hK _ ?_;clear hK K)
 refine jm ?_;clear y0 y1;refine dB 9 rfl Aab Aah (λx hx=>?_);go_simp;have HX:=Hq hx;clear hx;refine(Ti (some mb) x).mono ?_;rintro e y ⟨rfl,rfl⟩;refine⟨au x _,?_⟩;refine dB 10 rfl Aab Aah (λx2 hx2=>?_);go_simp;have HX2:=Hq hx2;have h1:x2.heap[x.heap.size]?=some (.cells #[.map (some mb)] 341 (0,0)):=aj (aEu x _) hx2;have HG:=Hq (Ge.trans (Ge.trans HX (au x _)) hx2);have h2:fq x2 mb n l:=HS.kept ((HG.block mb (by have:=HS.lt;simp;omega)).trans (aEI _ _ _ HS.lt));have HCS:=Hq (HSO x.heap.size x2 h1 h2);clear hx2 h1 h2 Ti HSO HX2;refine HCS.mono ?_;rintro e z ⟨v,rfl,hrow,hbz⟩;refine⟨hbz,?_⟩;obtain⟨av,cv,rfl,_⟩:=GR.own_at (enc:=aW) (sz:=1) aU hrow;have HRW:=Hq hrow;have HZ:=Hq (Ge.trans HG hbz);clear hrow hbz HCS;refine tk [11] ?_;(refine iy (λK hK=>?_);go_simp;refine hK _ ?_;clear hK K)
 refine jm ?_;refine aS Aab (λx3 hx3=>?_);have Ey:=Hq (Ge.trans HZ hx3);have HR3:=Hq (GR.own_below HRW hx3);have e3:x3.heap[w.heap.size]?=some (.cells #[.int .i64 0,.int .i64 0,.slice none 0 0] 144 (0,0)):=aj (aEu w _) Ey;have f0:=aA e3 0;have f1:=aA e3 1;have f2:=aA e3 2;have hw3:=ay e3;obtain⟨d0,d1,d2⟩:=three e3;have E3:=Hq e3;clear e3 hx3 HX HZ HRW;refine an 12 ?_;go_simp;refine ad ?_;clear d0 d1 d2 f0 f1 f2;go_wp2_with fail;refine fQ (λW' hW'=>?_)
 have e4:W'.heap[w.heap.size]?=some (.cells #[.int .i64 f,.int .i64 low,.slice av l.length cv] 144 (0,0)):=by
  rw [hW'];exact GR.setW_blk [.int .i64 f,.int .i64 low,.slice av l.length cv] (o:=0) (xs:=[.int .i64 0,.int .i64 0,.slice none 0 0]) E3
 have hsw:w.heap.size < x2.heap.size:=by have:=HG.size;simp at this;omega
 have hg:x3.grownBy W' (some w.heap.size):=by
  rw [hW'];exact⟨rfl,rfl,rfl,Aaq,λk _ hk=>GR.setW_other (g':=k) (λe=>hk Aao) [.int .i64 f,.int .i64 low,.slice av l.length cv] (o:=0)⟩
 have hne:∀k,(Value.slice av l.length cv).ownBlock=some k->k≠w.heap.size:=λk hk=>by have:=(HR3.lt k hk).1;omega
 have hrow:W'.ownsRow x2.heap.size 3 1 (.slice av l.length cv) l.length (GR.flat aW l):=by
  refine HR3.kept (row:=some w.heap.size) hg ?_;cases hv:(Value.slice av l.length cv).ownBlock with
  |none=>exact .inl rfl
  |some k=>exact .inr (λe=>hne k hv (by injection e))
 have hbel:aG w W':=by
  rw [hW'];exact GR.setW_below (aEx _) [.int .i64 f,.int .i64 low,.slice av l.length cv] (o:=0) ((au w _).trans (Ey.mono Aac))
 have HRW:=Hq (ownsRow_base_a hrow (show w.heap.size<=x2.heap.size by omega));have gK:=Hq hbel;obtain⟨d0,d1,d2⟩:=three e4;clear hW' e4 hg hrow hbel;exact aEE (v:= .agg #[.int .i64 f,.int .i64 low,.slice av l.length cv]) (by simp[results,results257,go_sem,d0,d1,d2]) rfl ⟨_,rfl,HRW,gK⟩
theorem Al (hs:keyOk s.data.toList=true):s.size<=1048576:=by
 rcases Classical.em (1<=s.data.toList.length/\s.data.toList.length<=10) with h|h
 .have e:s.size=s.data.toList.length:=by rw [aE9];rfl
  omega
 .rw [keyOk_len _ h] at hs;cases hs
theorem afG {n:Nd} (hok:dQ n=true):eH n 1048576:=by
 obtain⟨h1,h2,h3,h4,h5,h6⟩:=bq hok;have hq:=iL h6;have ho:=sG h5;have hn:=vZ h1;have hpl:=h1;unfold dX at hpl;simp only[aED,aES] at hpl;have htl:=h3;unfold nZ at htl;rw [aED,aES] at htl;have hps:=(jQ n.pu).1 h2;refine⟨Aaa,Aaa,Aaa,by split at htl<;>omega,Aaa,λx hx=>?_,λx hx=>?_,λx hx=>?_,λx hx=>?_⟩
 .grind [gZ,Al]
 .grind [wm,Al]
 .have:=AZ hok x hx;unfold vK at this;grind
 .exact Al (jS (hq.2.2.1 x hx)).2.2.1
theorem axO {n:Nd} (hz:eH n 1048576):eH (doN n o).1 1048576:=by
 cases hok:dQ n
 .rw [Mh hok];exact hz
 .exact afG (Xj hok)
namespace Mth
def gH (n:Nd) (L:List gD):Nd:=L.foldl (λm o=>(doN m o).1) n
theorem KG {n:Nd} {L:List gD} {k:Nat} (hk:k < L.length):gH n (L.take (k+1))=(doN (gH n (L.take k)) L[k]).1:=by
 unfold gH;rw [aEF hk,List.foldl_append];rfl
theorem adg {n:Nd} (h:dQ n=false) (L:List gD):gH n L=n:=by
 induction L with
 |nil=>rfl
 |cons o L ih=>
  have e:gH n (o::L)=gH (doN n o).1 L:=rfl;rw [e,Mh h];exact ih
theorem Xm {n:Nd} (h:dQ n=true) (L:List gD):dQ (gH n L)=true:=by
 induction L generalizing n with
 |nil=>exact h
 |cons o L ih=>exact ih (Xj h)
theorem Nk {n:Nd} (h:eH n 1048576) (L:List gD):eH (gH n L) 1048576:=by
 induction L generalizing n with
 |nil=>exact h
 |cons o L ih=>exact ih (axO h)
theorem azr {a:Nat} (h:Eb s a=true):bC (opC (Il s a))=true:=by
 have hg:=(tK h).2.2.2.2.2.1;grind [kN]
theorem KQ (s:ByteArray):∀(f a:Nat),a<=s.size->(sU s f a).1.length+a<=s.size
 |0,a,h=>by simpa [sU] using h
 |f+1,a,h=>by
  unfold sU
  split
  .rename_i hs
   obtain⟨p1,_,_,p2,p3,_⟩:=tK hs;have:=KQ s f (IV s a).toNat Aaa;rw [aFU];omega
  .simpa using h
theorem Ra (s:ByteArray):∀(f a:Nat),∀o∈(sU s f a).1,bC o=true
 |0,_,o,h=>by simp[sU] at h
 |f+1,a,o,h=>by
  unfold sU at h
  split at h
  .rename_i hs
   rcases aET.1 h with rfl|h
   .exact azr hs
   .exact Ra s f _ o h
  .simp at h
theorem alv (h:s.toList=[]):s.size<=1048576:=by
 have e:s=ByteArray.empty:=toList_inj (h.trans (by decide+kernel));rw [e];decide
theorem Xk (h:bC o=true):o.k.size<=1048576/\o.m.k.size<=1048576:=by
 grind [bJ,bC,lK,Al,alv]
theorem Q6 (s:ByteArray):∀o∈(fT s).1,bC o=true:=by
 unfold fT;split
 .exact Ra s _ _
 .intro o h;simp at h
theorem KN (s:ByteArray):(fT s).1.length<=60000:=by
 unfold fT;split
 .rename_i h
  have:=KQ s (s.size+1) 0 (aEN _);omega
 .simp
end Mth
end Go.Proofs.YtfachhcijcjbpaaGreatDoor
