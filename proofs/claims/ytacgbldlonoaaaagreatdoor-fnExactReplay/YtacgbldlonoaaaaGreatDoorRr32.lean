/- Parts. -/
import Derived.Test.YtacgbldlonoaaaaGreatDoorRr25
import Derived.Test.YtacgbldlonoaaaaGreatDoorRr29
namespace Go.Proofs.YtacgbldlonoaaaaGreatDoor
set_option maxHeartbeats 8000000
set_option maxRecDepth 100000
open Go.RowKit
open Mth
theorem Ag (wb:Nat) (a:Option Addr) (len cp:Nat) (w:World):Calls Tryz.prog 162 #[.pointer (some ⟨wb,0,none⟩),.slice a len cp,.bool false] w λe w'=>e= .returned (.bool false)/\w=w':=by
 exact aeE
theorem wU (wb:Nat) (n:Nd) (A:bH) (v:Value) (a:Option Addr) (len cp:Nat) (w:World) (h:w.heap[wb]?=some (.cells (Kz n A v) 74 (0,0))):Calls Tryz.prog 162 #[.pointer (some ⟨wb,0,none⟩),.slice a len cp,.bool true] w λe w'=>e= .returned (.bool true)/\w.setCell ⟨wb,4,none⟩ (.slice a len cp)=w':=by
 obtain⟨c0,c1,c2,c3,c4,c5,c6,c7,c8,c9⟩:=iQ h;have f4:=au h 4;clear h;exact aeE
theorem Sm {w0 w x:World} {wb:Nat} {n:Nd} {A:bH} {G:aV} {c:Nat->Nat} {v:Value} {L:List Mg} (h:WK w0 w wb n A G c v L) {r:List Pu×Bool} {a:Option Addr} {cp g:Nat} (hb:aX w x) (hg:w.heap.size<=g) (hp:vK x a g r.1):
 Calls Tryz.prog 162 #[.pointer (some ⟨wb,0,none⟩),.slice a r.1.length cp,.bool r.2] x λe w'=>e= .returned (.bool r.2)/\∃A' G' c',WK w0 w' wb (if r.2=true then setPu n r.1 else n) A' G' c' v L:=by
 obtain⟨l,b⟩:=r;cases b with
 |false=>
  refine(Ag wb a l.length cp x).mono ?_
  rintro e w' ⟨rfl,rfl⟩
  exact⟨rfl,A,G,c,h.step hb⟩
 |true=>
  refine(wU wb n A v a l.length cp x (h.step hb).blk).mono ?_
  rintro e w' ⟨rfl,rfl⟩
  exact⟨rfl,_,_,_,h.setPu hb hp (λy hy=>by rw [(gH hy).1];exact hg)⟩
def tC (n:Nd) (o:gM):Nd×Int:=if n.par= -1/\(dx n.pu o.k 1 1 0 o.n).2=true then(setPu n (dx n.pu o.k 1 1 0 o.n).1,0) else(n,1)
theorem Ve (w0 w:World) (wb:Nat) (n:Nd) (A:bH) (G:aV) (c:Nat->Nat) (v:Value) (L:List Mg) (o:gM) (hpar:¬n.par= -1) (h:WK w0 w wb n A G c v L):
 Calls Tryz.prog 107 #[.pointer (some ⟨wb,0,none⟩),jB o] w λe w'=>e= .returned (.int .i64 (tC n o).2)/\∃A' G' c',WK w0 w' wb (tC n o).1 A' G' c' v L:=by
 have hR:tC n o=(n,1):=if_neg (λhx=>hpar hx.1);rw [hR];have hq:(n.par != -1)=true:=Abg
 have hq2:(n.par == -1)=false:=Abg
 have HW:=Hq h;obtain⟨K,no,k,nn,⟨mK,mF,mT,mI,mL,mk,mN⟩⟩:=o;open ajT in exact Tj
theorem QI (w0 w:World) (wb:Nat) (n:Nd) (A:bH) (G:aV) (c:Nat->Nat) (v:Value) (L:List Mg) (o:gM) (E:Nat->Addr) (hz:fu n 1048576) (hk:o.k.size<=1048576) (hpar:n.par= -1) (h:WK w0 w wb n A G c v L) (he:iG w0 E):
 Calls Tryz.prog 107 #[.pointer (some ⟨wb,0,none⟩),jB o] w λe w'=>e= .returned (.int .i64 (tC n o).2)/\∃A' G' c',WK w0 w' wb (tC n o).1 A' G' c' v L:=by
 have hR:tC n o=((if (dx n.pu o.k 1 1 0 o.n).2=true then setPu n (dx n.pu o.k 1 1 0 o.n).1 else n),(if (dx n.pu o.k 1 1 0 o.n).2=true then 0 else 1)):=by
  unfold tC;cases hb:(dx n.pu o.k 1 1 0 o.n).2<;>simp[hpar]
 rw [hR];have hq:(n.par != -1)=false:=Abg
 have hq2:(n.par == -1)=true:=Abg
 have HW:=Hq h;have HMI:=Hq (λw1 (hb:aX w w1)=>Yx A.p A.cp n.pu o.k o.n E w1 hz.p hz.pk hk (GR.At.below h.no.p.at hb) (he.below (h.keep.trans (hb.mono h.keep.size))));unfold jD at HMI;obtain⟨K,no,k,nn,⟨mK,mF,mT,mI,mL,mk,mN⟩⟩:=o;dsimp only at HMI ⊢;generalize dx n.pu k 1 1 0 nn=r at *;open ajS in exact Tj
theorem agE (w0 w:World) (wb:Nat) (n:Nd) (A:bH) (G:aV) (c:Nat->Nat) (v:Value) (L:List Mg) (o:gM) (E:Nat->Addr) (hz:fu n 1048576) (hk:o.k.size<=1048576) (h:WK w0 w wb n A G c v L) (he:iG w0 E):
 Calls Tryz.prog 107 #[.pointer (some ⟨wb,0,none⟩),jB o] w λe w'=>e= .returned (.int .i64 (tC n o).2)/\∃A' G' c',WK w0 w' wb (tC n o).1 A' G' c' v L:=by
 by_cases hpar:n.par= -1
 .exact QI w0 w wb n A G c v L o E hz hk hpar h he
 .exact Ve w0 w wb n A G c v L o hpar h
def Et (n:Nd) (o:gM):List Mg×Int:=if n.par= -1 then([],1) else([Iz n o],0)
theorem agG (w0 w:World) (wb:Nat) (n:Nd) (A:bH) (G:aV) (c:Nat->Nat) (v:Value) (L:List Mg) (o:gM) (hk:o.k.size<=1048576) (hL:L.length<=2097100) (h:WK w0 w wb n A G c v L):
 Calls Tryz.prog 110 #[.pointer (some ⟨wb,0,none⟩),jB o] w λe w'=>e= .returned (.int .i64 (Et n o).2)/\∃c' v',WK w0 w' wb n A G c' v' (L++(Et n o).1):=by
 have HSY:=Hq (λW c v (hW:WK w0 W wb n A G c v L)=>Sv w0 W wb n A G c v L (Iz n o) (by show o.k.size<=1048600;omega) Aaa hW);unfold Iz at HSY;have hwl:=aA h.blk;have hne:wb≠w.heap.size:=Aaa
 by_cases hpar:n.par= -1
 .have hR:Et n o=([],1):=if_pos hpar;rw [hR];open aoV in exact WL
 .have hR:Et n o=([Iz n o],0):=if_neg hpar;rw [hR];unfold Iz;obtain⟨K,no,k,nn,⟨mK,mF,mT,mI,mL,mk,mN⟩⟩:=o;dsimp only at HSY ⊢;open ajU in exact Tj
theorem nY {w:World} {g:Nat} {a0 a1 a2 a3 b0 b1 b2 b3:Value} {t:TypeId} (h:w.heap[g]?=some (.cells #[a0,a1,a2,a3] t (0,0))):((((w.setCell ⟨g,0,none⟩ b0).setCell ⟨g,1,none⟩ b1).setCell ⟨g,2,none⟩ b2).setCell ⟨g,3,none⟩ b3).heap[g]?=some (.cells #[b0,b1,b2,b3] t (0,0)):=
 GR.setW_blk [b0,b1,b2,b3] (o:=0) (xs:=[a0,a1,a2,a3]) h
theorem iI {a w:World} {B g:Nat} {b0 b1 b2 b3:Value} (h:Below B a w) (hg:B<=g):Below B a ((((w.setCell ⟨g,0,none⟩ b0).setCell ⟨g,1,none⟩ b1).setCell ⟨g,2,none⟩ b2).setCell ⟨g,3,none⟩ b3):=
 GR.setW_below hg [b0,b1,b2,b3] (o:=0) h
theorem WK.outApp {w0 w w6:World} {wb:Nat} {n:Nd} {A:bH} {G:aV} {c:Nat->Nat} {v:Value} {L:List Mg} {a6:Option Addr} {c6:Nat} (h:WK w0 w wb n A G c v L) (s:kC)
 (hown:w6.ownsRow w0.heap.size 95 4 (.slice a6 (n.out.length+1) c6) (n.out.length+1) (GR.flat aR n.out++aR s)) (hg:w.grownBy w6 (Value.slice A.o n.out.length A.co).ownBlock) (hv:∀x,(Value.slice a6 (n.out.length+1) c6).ownBlock=some x->(Value.slice A.o n.out.length A.co).ownBlock=some x\/w.heap.size<=x):
 w6.heap[wb]?=some (.cells (Kz n A v) 74 (0,0))/\KC (newC w.heap.size 3 c) 3 w w6/\WK w0 (w6.setCell ⟨wb,5,none⟩ (.slice a6 (n.out.length+1) c6)) wb (setOut n (n.out++[s])) ⟨A.k,A.p,a6,A.s,A.r,A.ck,A.cp,c6,A.cs,A.cr⟩ G (newC w.heap.size 3 c) v L:=by
 have h1:=h.recol (c':=newC w.heap.size 3 c) (λx hx=>dW hx);have hk1:KC (newC w.heap.size 3 c) 3 w w6:=KC.grown hg h1.no.co;have hblk:=hk1.obj h1.blk (by rw [h1.cw];omega);have hkeep:=hk1.below h1.keep h1.no.lo Aaa h1.keep.size;have hk2:KC (newC w.heap.size 3 c) 8 w6 (w6.setCell ⟨wb,5,none⟩ (.slice a6 (n.out.length+1) c6)):=KC.set h1.cw
 have hco:∀x,(Value.slice a6 (n.out.length+1) c6).ownBlock=some x->newC w.heap.size 3 c x=3:=λx hx=>by
  rcases hv x hx with hx'|hx'
  .exact h1.no.co x hx'
  .exact aS hx'
 have hlen:(n.out++[s]).length=n.out.length+1:=Aac
 have hno:=h1.no;refine⟨hblk,hk1,hk2.below hkeep hno.lo Aaa hkeep.size,?_,⟨?_,?_,?_,?_,?_,hno.lo,hno.ck,hno.cp,?_,hno.c4,hno.ci,hno.cr,hno.ni⟩,?_,h1.cm,h1.cw⟩
 .have:=bC hblk 5 (.slice a6 (n.out.length+1) c6);rw [this];show some (Obj.cells (Kz n A v |>.setIfInBounds 5 _) _ _)=some (Obj.cells #[_,_,_,_,_,.slice a6 (n.out++[s]).length c6,_,_,_,_] _ _)
  rw [hlen];rfl
 .exact hk2.w (hk1.w hno.k hno.ck Aaa) hno.ck Aaa
 .exact hk2.w (hk1.w hno.p hno.cp Aaa) hno.cp Aaa
 .show(w6.setCell _ _).ownsRow _ _ _ (.slice a6 (n.out++[s]).length c6) (n.out++[s]).length (GR.flat aR (n.out++[s]))
  rw [hlen,ig];exact hk2.own hown hco Aaa
 .exact aej
 .exact hk2.own (hk1.own hno.r hno.cr Aaa) hno.cr Aaa
 .show∀x,(Value.slice a6 (n.out++[s]).length c6).ownBlock=some x->_
  rw [hlen];exact hco
 .exact hk2.own (hk1.own h1.m h1.cm Aaa) h1.cm Aaa
theorem WK.next {w0 w:World} {wb:Nat} {n:Nd} {A:bH} {G:aV} {c:Nat->Nat} {v:Value} {L:List Mg} (h:WK w0 w wb n A G c v L) (y:Int):WK w0 (w.setCell ⟨wb,3,none⟩ (.int .i64 y)) wb (abv n y) A G c v L:=by
 have hk2:KC c 8 w (w.setCell ⟨wb,3,none⟩ (.int .i64 y)):=KC.set h.cw;have hno:=h.no.kc hk2 Aaa;exact⟨hk2.below h.keep h.no.lo Aaa h.keep.size,bC h.blk 3 (.int .i64 y),⟨hno.k,hno.p,hno.o,hno.s,hno.r,hno.lo,hno.ck,hno.cp,hno.co,hno.c4,hno.ci,hno.cr,hno.ni⟩,hk2.own h.m h.cm Aaa,h.cm,h.cw⟩
theorem yh {s:ByteArray} (hs:keyOk s.data.toList=true):s.size<=10:=by
 unfold keyOk at hs;simp only[Bool.and_eq_true,decide_eq_true_iff] at hs;have:=bn s;omega
theorem Y9 {n:Nd} (h:dU n=true):fu n 1000:=by
 obtain⟨h1,h2,h3,h4,h5,h6⟩:=bQ h;obtain⟨p1,p2,p3⟩:=(jJ n.pu).1 h2;obtain⟨o1,o2,o3⟩:=qP h5;obtain⟨r1,r2,r3,_,_⟩:=iM h6
 have hk:n.kids.length<=30:=by
  unfold dZ at h1;simp only[Bool.and_eq_true,decide_eq_true_eq] at h1;exact h1.1.2
 unfold nC at h3;simp only[Bool.and_eq_true,decide_eq_true_eq] at h3
 have hs:n.seen.length<=31:=by
  have:=h3.1;split at this<;>omega
 refine⟨Aaa,Aaa,Aaa,Aaa,Aaa,λx hx=>?_,λx hx=>?_,λx hx=>?_,λx hx=>?_⟩
 .have:=p1 x hx;unfold gJ at this;simp only[Bool.and_eq_true] at this;exact Nat.le_trans (yh this.1.1.1.1) Aaa
 .have:=o3 x hx;unfold tX at this;simp only[Bool.and_eq_true] at this;exact Nat.le_trans (yh this.1.2) Aaa
 .have:=xO h3.2 x hx;unfold uh at this;simp only[Bool.and_eq_true,decide_eq_true_eq] at this;have:=this.2.1.2;omega
 .have:=(jL (r3 x hx)).2.2.1;exact Nat.le_trans (yh this) Aaa
theorem QJ (w0 w:World) (wb:Nat) (n:Nd) (A:bH) (G:aV) (c:Nat->Nat) (v:Value) (L:List Mg) (dst:Int) (key:ByteArray) (a:Int) (hc:n.out.length=40) (h:WK w0 w wb n A G c v L):Calls Tryz.prog 168 #[.pointer (some ⟨wb,0,none⟩),.int .i64 dst,.string key,.int .i64 a] w λe w'=>e= .returned (.bool false)/\w=w':=by
 have hq:((n.out.length:Int) == 40)=true:=by rw [hc];rfl
 exact adY
theorem QK (w0 w:World) (wb:Nat) (n:Nd) (A:bH) (G:aV) (c:Nat->Nat) (v:Value) (L:List Mg) (dst:Int) (key:ByteArray) (a:Int) (hl:n.out.length < 40) (hc:n.next=1000000000) (h:WK w0 w wb n A G c v L):Calls Tryz.prog 168 #[.pointer (some ⟨wb,0,none⟩),.int .i64 dst,.string key,.int .i64 a] w λe w'=>e= .returned (.bool false)/\w=w':=by
 have hq:((n.out.length:Int) == 40)=false:=Aag
 have hq2:(n.next == 1000000000)=true:=by rw [hc];rfl
 exact adY
theorem QL (w0 w:World) (wb:Nat) (n:Nd) (A:bH) (G:aV) (c:Nat->Nat) (v:Value) (L:List Mg) (dst:Int) (key:ByteArray) (a:Int) (E:Nat->Addr) (hok:dU n=true) (hkey:keyOk key.data.toList=true) (ha1:1<=a) (ha2:a<=1000000000) (hL:L.length<=2097100) (hc1:n.out.length < 40) (hc2:n.next < 1000000000) (h:WK w0 w wb n A G c v L) (he:iG w0 E):
 Calls Tryz.prog 168 #[.pointer (some ⟨wb,0,none⟩),.int .i64 dst,.string key,.int .i64 a] w λe w'=>e= .returned (.bool (eO n dst key a).2.2)/\∃A' G' c' v',WK w0 w' wb (eO n dst key a).1 A' G' c' v' (L++(eO n dst key a).2.1):=by
 have hz:=Y9 hok;obtain⟨_,hps,_,hnx,_,_⟩:=bQ hok;have hnx1:1<=n.next/\n.next<=1000000000:=by simpa [fD] using hnx
 have hks:=yh hkey
 have hf:0<=(aG n.pu key).f/\(aG n.pu key).f<=1000000000:=by
  have hpo:=wP hps hkey;unfold gJ pz at hpo;simp only[Bool.and_eq_true,decide_eq_true_eq] at hpo;exact hpo.1.1.2
 have Gq:=Hq (λw1 (hb:aX w w1)=>MH A.p A.cp n.pu key w1 (by have:=hz.p;omega) (λp hp=>Nat.le_trans (hz.pk p hp) Aaa) Aaa (GR.At.below h.no.p.at hb));have HPA:=Hq (fun(y:Int) w1 (hb:aX w w1)=>Yy A.p A.cp n.pu key y E w1 (by have:=hz.p;omega) (λp hp=>Nat.le_trans (hz.pk p hp) Aaa) Aaa (GR.At.below h.no.p.at hb) (he.below (h.keep.trans (hb.mono h.keep.size))));unfold jD at HPA
 have Ew:Hid (nQ n key a=min a (aG n.pu key).f):=by
  show nQ n key a=min a (aG n.pu key).f
  unfold nQ;split<;>omega
 have KV:=Hq (fun(y:Int) (h1:1<=y) (h2:y<=(aG n.pu key).f) (h3:y<=1000000000)=>abo hps hkey h1 h2 h3);have jP:=Hq (fun(y:Int) (h1:¬1<=y)=>IZ (l:=n.pu) (key:=key) (dm:=0) (df:= -1) (ds:=0) (n:=y) (λhx=>h1 hx.1))
 have HGY:Hid (1<=nQ n key a->eO n dst key a=(qc n dst key (nQ n key a),[nI (qc n dst key (nQ n key a)) ⟨n.next,dst,key,nQ n key a⟩],true)):=λh1=>by
  unfold eO
  exact if_pos (decide_eq_true ⟨h1,hc1,hc2⟩)
 have HGN:Hid (¬1<=nQ n key a->eO n dst key a=(n,[],false)):=λh1=>by
  unfold eO Nt
  rw [if_neg (by rw [decide_eq_false (λhx=>h1 hx.1)];simp)]
 have hq1:((n.out.length:Int) == 40)=false:=Aag
 have hq2:(n.next == 1000000000)=false:=Aag
 have HOL:=Hq hc1;have HZ:=Hq hz;generalize hfr:aG n.pu key=fr at *;obtain⟨fk,fm,ff,fs⟩:=fr;dsimp only at hf Ew KV;have HW:=Hq h;clear h he hok hkey hps hnx hc1 hc2 hfr hz;generalize eO n dst key a=gv at *;obtain⟨c0,c1,c2,c3,c4,c5,c6,c7,c8,c9⟩:=iQ HW.blk;go_enter Tryz.func168,Tryz.ntmps168
 go_wp2_with fail;refine(Gq w (Below.refl _ _)).mono ?_;rintro e w1 ⟨rfl,hb1⟩;have HB1:=Hq hb1;have HW1:=Hq (HW.step hb1);clear hb1 Gq c0 c1 c2 c3 c4 c5 c6 c7 c8 c9;obtain⟨c0,c1,c2,c3,c4,c5,c6,c7,c8,c9⟩:=iQ HW1.blk;have awj:=zF fk fm ff fs;go_wp2_with fail;clear c0 c1 c2 c3 c4 c5 c6 c7 c8 c9 awj;have axC:min a ff<=a:=Aaa
 have awE:min a ff<=ff:=Aaa
 generalize min a ff=rE at *;have hAM:=ah Ew;rw [hAM] at HGY HGN;clear Ew hAM;refine(HPA rE w1 HB1).mono ?_;rintro e y ⟨pa,pcp,pg,hpg,rfl,hp,hby⟩;have HST:=Hq (Sm (cp:=pcp) HW1 hby hpg hp);have HPD:Hid (qc n dst key rE=⟨n.id,n.par,n.kids,n.next+1,(dx n.pu key 0 (-1) 0 rE).1,n.out++[⟨n.next,dst,key,rE⟩],n.seen,n.old,n.reqs⟩):=rfl;have Bq:=Hq (KV rE);have SG:=Hq (jP rE);clear hp hby hpg HPA KV jP HW1;generalize dx n.pu key 0 (-1) 0 rE=r at *;go_wp2_with fail;refine HST.mono ?_;rintro e z ⟨rfl,A1,G1,c1,hZ⟩;by_cases h1:1<=rE
 case' neg=>
  have hr:=ah SG Aaa
  subst hr
  have HZ1:=Hq hZ
  have hG:=ah HGN Aaa
  have HG:=Hq hG
  clear hZ hG HGY HGN HST Bq SG HPD
  go_wp2_with fail
  go_ret
  have hG:=ah HG
  subst hG
  refine⟨rfl,A1,G1,c1,v,?_⟩
  rw [List.append_nil]
  exact HZ1
 have hr2:=ah Bq h1 awE Aaa;obtain⟨rl,rb⟩:=r;dsimp only at hr2;subst hr2;have HG:=Hq (HGY h1);have xq:Hid (WK w0 z wb (setPu n rl) A1 G1 c1 v L):=hZ;clear hZ HGY HGN HST Bq SG HB1 HW;have hcl:n.out.length<=40:=by have:=ah HOL;omega
 obtain⟨c0,c1,c2,c3,c4,c5,c6,c7,c8,c9⟩:=iQ xq.blk;dsimp only[setPu] at c0 c1 c2 c3 c4 c5 c6 c7 c8 c9;have axR:=aA xq.blk;go_upto_region 6 with fail;have y3:=cell_regrown c3;clear c0 c1 c2 c3 c4 c5 c6 c7 c8 c9;refine bE 11 Aab ?_;show eF _ _ _ _ _ 12 (Array.replicate 12 false) _ _
 refine tk [0,1,2,3,4,5,6,8] ?_;iterate 8 (refine qA (λK hK=>?_);go_simp;refine hK _ ?_;clear hK K)
 refine iN ?_;clear y3;refine wX 7 10 rfl rfl Aab Aad Aad (λx hx=>?c1) (λx hx=>?c2)
 case' c1=>
  go_simp
  refine(clone key x Aaa).mono ?_
  rintro e y ⟨rfl,hby⟩
  refine⟨hby,?_⟩
  have HY:=Hq (Ge.trans hx hby)
  clear hx hby
  refine tk [9] ?_
  (refine qA (λK hK=>?_);go_simp;refine hK _ ?_;clear hK K)
  refine iN ?_
  refine dz 10 rfl Aab Aad (λx2 hx2=>?_)
  go_simp
  refine⟨aj x2 _,?_⟩
  have hgl:z.heap.size<=x2.heap.size:=(Ge.trans HY hx2).size
  have Bh:=Hq (heap_alloc_new x2 (.cells (eU 0 0 ⟨#[]⟩ 0) 95))
  have tZ:=Hq (Ge.trans (Ge.trans HY hx2) (aj x2 (.cells (eU 0 0 ⟨#[]⟩ 0) 95)))
  clear hx2 HY
  generalize x2.alloc (.cells (eU 0 0 ⟨#[]⟩ 0) 95)=y2 at *
  generalize x2.heap.size=g at *
  refine aT Aab (λz2 hz2=>?_)
  have jX:=Hq (ay Bh hz2)
  have eY:=Hq (Ge.trans tZ hz2)
  clear hz2 Bh tZ
  have BD:=aA jX
  obtain⟨g0,g1,g2,g3⟩:=fQ jX
  have f0:=au jX 0
  have f1:=au jX 1
  have f2:=au jX 2
  have f3:=au jX 3
  refine aF 11 rfl Aab Aad ?_
  go_simp
  refine wpAny_done Aab ?_
  go_simp
  go_upto_region 7 with fail
  refine wp_at (λW hW=>?_)
  have QV:Hid (W.heap[g]?=some (.cells (eU n.next dst key rE) 95 (0,0))):=Abx
  have gZ:Hid (aX z W):=Aby
  clear hW jX eY BD g0 g1 g2 g3 f0 f1 f2 f3
 case' c2=>
  go_simp
  refine⟨aj x _,?_⟩
  have hgl:z.heap.size<=x.heap.size:=hx.size
  have Bh:=Hq (heap_alloc_new x (.cells (eU 0 0 ⟨#[]⟩ 0) 95))
  have tZ:=Hq (Ge.trans hx (aj x (.cells (eU 0 0 ⟨#[]⟩ 0) 95)))
  clear hx
  generalize x.alloc (.cells (eU 0 0 ⟨#[]⟩ 0) 95)=y2 at *
  generalize x.heap.size=g at *
  refine dz 7 rfl Aab Aad (λx2 hx2=>?_)
  go_simp
  refine(clone key x2 Aaa).mono ?_
  rintro e y3 ⟨rfl,hby⟩
  refine⟨hby,?_⟩
  have HGC:=Hq (ay Bh (Ge.trans hx2 hby))
  have HBC:=Hq (Ge.trans tZ (Ge.trans hx2 hby))
  clear hx2 hby Bh tZ
  refine tk [9] ?_
  (refine qA (λK hK=>?_);go_simp;refine hK _ ?_;clear hK K)
  refine iN ?_
  refine aT Aab (λz2 hz2=>?_)
  have jX:=Hq (ay HGC hz2)
  have eY:=Hq (Ge.trans HBC hz2)
  clear hz2 HGC HBC
  have BD:=aA jX
  obtain⟨g0,g1,g2,g3⟩:=fQ jX
  have f0:=au jX 0
  have f1:=au jX 1
  have f2:=au jX 2
  have f3:=au jX 3
  refine aF 11 rfl Aab Aad ?_
  go_simp
  refine wpAny_done Aab ?_
  go_simp
  go_upto_region 7 with fail
  refine wp_at (λW hW=>?_)
  have QV:Hid (W.heap[g]?=some (.cells (eU n.next dst key rE) 95 (0,0))):=Abx
  have gZ:Hid (aX z W):=Aby
  clear hW jX eY BD g0 g1 g2 g3 f0 f1 f2 f3
 all_goals
  have hgw:=aA QV
  have Wu:=Hq (xq.step gZ)
  have HCG:Hid ((Value.slice A1.o n.out.length A1.co).ownBlock≠some g):=λe=>by have h9:=(xq.no.o.lt g e).2;omega
  clear xq gZ
  obtain⟨c0,c1,c2,c3,c4,c5,c6,c7,c8,c9⟩:=iQ Wu.blk
  dsimp only[setPu] at c0 c1 c2 c3 c4 c5 c6 c7 c8 c9
  obtain⟨s0,s1,s2,s3⟩:=fQ QV
  obtain⟨i0,hi,hz0,hz1,hz2⟩:=info_parts Jw
  have y5:=cell_regrown c5
  have x0:=cell_regrown s0
  have x1:=cell_regrown s1
  have x2:=cell_regrown s2
  have x3:=cell_regrown s3
  clear c0 c1 c2 c3 c4 c5 c6 c7 c8 c9 s0 s1 s2 s3
  refine jN Aab ?_
  show sU _ _ _ _ 13 (Array.replicate 13 false) _ _
  refine nD 0 rfl Aab Aab Aab (λ_ _ _ _ h=>h) (λK hK=>?_)
  go_simp
  first
   |(refine hK _ ?_;clear hK K)
   |(apply Exists.intro
     refine⟨λ_=>rfl,hK _ ?_⟩
     clear hK K)
  refine ql 8 ?_
  refine tk [1,2,3,4,5,6] ?_
  iterate 6 (refine qA (λK hK=>?_);go_simp;refine hK _ ?_;clear hK K)
  refine iN ?_
  clear y5 x0 x1 x2 x3
  refine dz 7 rfl Aab Aad (λq hq=>?_)
  go_simp
  refine⟨aj q _,?_⟩
  have Gu:=Hq ((Wu.step hq).step (aj q (.cells (eU n.next dst key rE) 95)))
  have HGX:=Hq (ay (ay QV hq) (aj q (.cells (eU n.next dst key rE) 95)))
  have gG:=Hq (heap_alloc_new q (.cells (eU n.next dst key rE) 95))
  have hgq:g < q.heap.size:=Nat.lt_of_lt_of_le hgw hq.size
  clear hq Wu QV hgw
  generalize q.alloc (.cells (eU n.next dst key rE) 95)=y4 at *
  refine aT Aab (λz4 ze=>?_)
  have Gw:=Hq (Gu.step ze)
  have HGZ:=Hq (ay HGX ze)
  have Cb:=Hq (ay gG ze)
  clear ze Gu gG HGX
  refine aF 8 rfl Aab Aad ?_
  refine nM z4 (.tmp 63) (.tmp 65) 26 rfl w0.heap.size 95 i0 (.agg (eU 0 0 ByteArray.empty 0)) 4 40 Tryz.underlying26 hi hz0 hz1 hz2 rfl Aae (.slice A1.o n.out.length A1.co) n.out.length (GR.flat aR n.out) Aak Gw.no.o ⟨q.heap.size,0,none⟩ 1 1 (aR ⟨n.next,dst,key,rE⟩) Aak rfl (World.news_of_block Cb) (rO _) Aah Aaa Gw.keep.size ?_
  intro v6 w6 hown6 pO Mq
  obtain⟨a6,c6,hv6,_⟩:=GR.own_at (enc:=aR) (sz:=4) (l:=n.out++[⟨n.next,dst,key,rE⟩]) cZ (by rw [List.length_append,ig];exact hown6)
  rw [List.length_append] at hv6
  have hv7:v6= .slice a6 (n.out.length+1) c6:=hv6
  subst hv7
  clear hv6
  obtain⟨hb6,TR,hS6⟩:=Gw.outApp ⟨n.next,dst,key,rE⟩ hown6 pO Mq
  have HS6:=Hq hS6
  obtain⟨k0,k1,k2,k3,k4,k5,k6,k7,k8,k9⟩:=iQ hb6
  have kf:=au hb6 5
  have HG6:Hid (w6.heap[g]?=some (.cells (eU n.next dst key rE) 95 (0,0))):=pO.block g (aA HGZ) (λe=>HCG e.symm) |>.trans HGZ
  clear hown6 pO Mq hb6 hS6 TR Gw Cb HGZ
  refine aF 9 rfl Aab Aad ?_
  go_simp
  refine aF 10 rfl Aab Aad ?_
  go_simp
  refine aF 11 rfl Aab Aad ?_
  go_simp
  refine aF 12 rfl Aab Aad ?_
  go_simp
  refine wpAny_done Aab ?_
  go_simp
  have hgb:g≠wb:=Aaa
  go_upto_region 8 with fail
  refine wp_at (λV8 hV=>?_)
  obtain⟨A8,G8,aaZ,Wn⟩:∃A8 G8 aaZ,Hid (WK w0 V8 wb (setOut (setPu n rl) (n.out++[⟨n.next,dst,key,rE⟩])) A8 G8 aaZ v L):=⟨_,_,_,by rw [hV];exact HS6⟩
  have HG8:Hid (V8.heap[g]?=some (.cells (eU n.next dst key rE) 95 (0,0))):=by rw [hV];exact jU HG6 hgb
  clear hV HS6 HG6 kf k0 k1 k2 k3 k4 k5 k6 k7 k8 k9
  obtain⟨c0,c1,c2,c3,c4,c5,c6,c7,c8,c9⟩:=iQ Wn.blk
  dsimp only[setPu,setOut] at c0 c1 c2 c3 c4 c5 c6 c7 c8 c9
  have kf3:=au Wn.blk 3
  go_upto_region 9 with fail
  refine wp_at (λV9 hV=>?_)
  have HS9:Hid (WK w0 V9 wb (qc n dst key rE) A8 G8 aaZ v L):=by rw [hV,ah HPD];exact Wn.next (n.next+1)
  have HG9:Hid (V9.heap[g]?=some (.cells (eU n.next dst key rE) 95 (0,0))):=by rw [hV];exact jU HG8 hgb
  have hl9:(qc n dst key rE).out.length<=1048600:=by rw [ah HPD];simp;omega
  clear hV Wn HG8 kf3 HPD c0 c1 c2 c3 c4 c5 c6 c7 c8 c9
  generalize qc n dst key rE=n9 at *
  have CG:=Hq (λp:Regrown=>Hf n9 A8 ⟨n.next,dst,key,rE⟩ (Gr V9 p) hl9 (GR.At.below HS9.no.at.o (below_regrown V9 p.d p.os)))
  have HSY:=Hq (λx (hx:Ge V9 x)=>Sv w0 x wb n9 A8 G8 aaZ v L (nI n9 ⟨n.next,dst,key,rE⟩) (by show key.size<=1048600;omega) Aaa (HS9.step hx))
  generalize nI n9 ⟨n.next,dst,key,rE⟩=pm at *
  obtain⟨qK,qF,qT,qI,qL,qk,qN⟩:=pm
  obtain⟨c0,c1,c2,c3,c4,c5,c6,c7,c8,c9⟩:=iQ HS9.blk
  obtain⟨s0,s1,s2,s3⟩:=fQ HG9
  have y0:=cell_regrown c0
  have y1:=cell_regrown c1
  have y2:=cell_regrown c2
  have y3:=cell_regrown c3
  have y4:=cell_regrown c4
  have y5:=cell_regrown c5
  have y6:=cell_regrown c6
  have y7:=cell_regrown c7
  have y8:=cell_regrown c8
  have x0:=cell_regrown s0
  have x1:=cell_regrown s1
  have x2:=cell_regrown s2
  have x3:=cell_regrown s3
  have hg9:=aA HG9
  have hw9:=aA HS9.blk
  clear c0 c1 c2 c3 c4 c5 c6 c7 c8 c9 s0 s1 s2 s3
  refine bE 7 Aab ?_
  show eF _ _ _ _ _ 8 (Array.replicate 8 false) _ _
  refine tk [0,1,2,3,4,5] ?_
  iterate 6 (refine qA (λK hK=>?_);go_simp;refine hK _ ?_;clear hK K)
  refine iN ?_
  refine uP 6 20 rfl Aab Aab Aab Aab Aab (λ_ _ _ _ h=>h) (λK hK=>?_)
  go_simp
  first
   |(refine hK _ ?_;clear hK K)
   |(apply Exists.intro
     refine⟨λ_=>?_,hK _ ?_⟩
     (exact CG _)
     clear hK K)
  clear y0 y1 y2 y3 y4 y5 y6 y7 y8 x0 x1 x2 x3
  refine aT Aab (λx hx=>?_)
  have Gu:=Hq (HSY x hx)
  clear hx
  refine aF 7 rfl Aab Aad ?_
  go_simp
  refine Gu.mono ?_
  rintro e y9 ⟨rfl,c',v',hY⟩
  have HY:=Hq hY
  clear hY Gu
  refine wpAny_done Aab ?_
  go_simp
  go_wp2_with fail
  go_ret
  have hG:=ah HG
  subst hG
  exact⟨rfl,A8,G8,c',v',HY⟩
theorem aeT (w0 w:World) (wb:Nat) (n:Nd) (A:bH) (G:aV) (c:Nat->Nat) (v:Value) (L:List Mg) (dst:Int) (key:ByteArray) (a:Int) (E:Nat->Addr) (hok:dU n=true) (hkey:keyOk key.data.toList=true) (ha1:1<=a) (ha2:a<=1000000000) (hL:L.length<=2097100) (h:WK w0 w wb n A G c v L) (he:iG w0 E):
 Calls Tryz.prog 168 #[.pointer (some ⟨wb,0,none⟩),.int .i64 dst,.string key,.int .i64 a] w λe w'=>e= .returned (.bool (eO n dst key a).2.2)/\∃A' G' c' v',WK w0 w' wb (eO n dst key a).1 A' G' c' v' (L++(eO n dst key a).2.1):=by
 obtain⟨_,_,_,hnx,ho,_⟩:=bQ hok;have hnx1:1<=n.next/\n.next<=1000000000:=by simpa [fD] using hnx
 have hol:=(qP ho).2.1
 have hgn:(n.out.length=40\/n.next=1000000000)->eO n dst key a=(n,[],false):=λhx=>by
  unfold eO Nt
  rw [if_neg (by rw [decide_eq_false (λhy=>Aaa)];simp)]
 by_cases h40:n.out.length=40
 .rw [hgn (.inl h40)];refine(QJ w0 w wb n A G c v L dst key a h40 h).mono ?_;exact aeD
 .by_cases hl:n.next=1000000000
  .rw [hgn (.inr hl)];refine(QK w0 w wb n A G c v L dst key a Aaa hl h).mono ?_;exact aeD
  .exact QL w0 w wb n A G c v L dst key a E hok hkey ha1 ha2 hL Aaa Aaa h he
theorem Za (n:Nd) (A:bH) (x:Int) (w:World) (hp:dZ n=true) (hl:n.kids.length<=1048600) (ha:dK w A n):
 Calls Tryz.prog 130 #[fI n A,.int .i64 x] w (eP w (.bool (dV n x))):=by
 have h:=MC n A x w hl ha.k;rw [near_same hp] at h;exact h
def CS (n:Nd) (o:gM):Nd×List Mg×Int:=if n.par= -1 then(n,[],1) else((eO n n.par o.k o.n).1,(eO n n.par o.k o.n).2.1,if (eO n n.par o.k o.n).2.2=true then 0 else 1)
theorem agv (w0 w:World) (wb:Nat) (n:Nd) (A:bH) (G:aV) (c:Nat->Nat) (v:Value) (L:List Mg) (o:gM) (E:Nat->Addr) (hok:dU n=true) (hkey:keyOk o.k.data.toList=true) (ha1:1<=o.n) (ha2:o.n<=1000000000) (hL:L.length<=2097100) (h:WK w0 w wb n A G c v L) (he:iG w0 E):
 Calls Tryz.prog 111 #[.pointer (some ⟨wb,0,none⟩),jB o] w λe w'=>e= .returned (.int .i64 (CS n o).2.2)/\∃A' G' c' v',WK w0 w' wb (CS n o).1 A' G' c' v' (L++(CS n o).2.1):=by
 have CG:=Hq (λW c v (hW:WK w0 W wb n A G c v L)=>aeT w0 W wb n A G c v L n.par o.k o.n E hok hkey ha1 ha2 hL hW he);have hwl:=aA h.blk;have hne:wb≠w.heap.size:=Aaa
 clear hok hkey ha1 ha2 he;by_cases hpar:n.par= -1
 .have hR:CS n o=(n,[],1):=if_pos hpar;rw [hR];open aoX in exact WL
 .have hR:CS n o=((eO n n.par o.k o.n).1,(eO n n.par o.k o.n).2.1,if (eO n n.par o.k o.n).2.2=true then 0 else 1):=if_neg hpar;rw [hR];obtain⟨K,no,k,nn,⟨mK,mF,mT,mI,mL,mk,mN⟩⟩:=o;dsimp only at CG ⊢;open ajV in exact Tj
theorem ZR (w0 w:World) (wb:Nat) (n:Nd) (A:bH) (G:aV) (c:Nat->Nat) (v:Value) (L:List Mg) (m:Mg) (hp:dZ n=true) (hz:n.kids.length<=1048600) (h:WK w0 w wb n A G c v L):
 Calls Tryz.prog 106 #[.pointer (some ⟨wb,0,none⟩),nS m] w (eP w (.bool (decide (m.T=n.id)&&dV n m.F))):=by
 obtain⟨mK,mF,mT,mI,mL,mk,mN⟩:=m;have HNB:=Hq (λw1 (ha:dK w1 A n)=>Za n A mF w1 hp hz ha);dsimp only;generalize dV n mF=nb at *;open aoY in exact WQ
theorem agF (w0 w:World) (wb:Nat) (n:Nd) (A:bH) (G:aV) (c:Nat->Nat) (v:Value) (L:List Mg) (o:gM) (hz:fu n 1048576) (hL:L.length<=1048000) (h:WK w0 w wb n A G c v L):
 Calls Tryz.prog 50 #[.pointer (some ⟨wb,0,none⟩),jB o] w λe w'=>e= .returned (.int .i64 0)/\∃c' v',WK w0 w' wb n A G c' v' (L++n.out.map (nI n)):=by
 have CG:=Hq (λs W (ha:SentAt W A.o n.out)=>Hf n A s W (by have:=hz.o;omega) ha);have HSY:=Hq (λW c v (k:Nat) (hk:k<=n.out.length) m (hm:m.k.size<=1048600) (hW:WK w0 W wb n A G c v (L++(n.out.take k).map (nI n)))=>Sv w0 W wb n A G c v _ m hm (by have:=hz.o;rw [List.length_append,List.length_map,List.length_take];omega) hW);have HKK:Hid (∀s∈n.out,(nI n s).k.size<=1048600):=λs hs=>Nat.le_trans (hz.ok s hs) Aaa
 have hlo:=hz.o;open aoW in exact WL
end Go.Proofs.YtacgbldlonoaaaaGreatDoor
