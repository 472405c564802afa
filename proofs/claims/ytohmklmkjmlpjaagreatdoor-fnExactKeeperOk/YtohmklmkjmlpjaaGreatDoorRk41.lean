/- Parts. -/
import Derived.Test.YtohmklmkjmlpjaaGreatDoorRk40
import Derived.Test.YtohmklmkjmlpjaaGreatDoorRk14
namespace Go.Proofs.YtohmklmkjmlpjaaGreatDoor
open Go.Proofs.Tryz
set_option maxHeartbeats 8000000
set_option maxRecDepth 100000
open Go.RowKit Go.Maps
open Mth
variable (w0 w:World) (wb sb mb k:Nat) (n:Nd) (A:bQ) (G:aX) (c:Nat->Nat) (v:Value) (L:List Mg) (m:Mg) (low:Int) (l:List Int) {w':World} {mm:Mg} {s:ByteArray}
structure qp (w0 w:World) (wb sb mb k:Nat) (n:Nd) (A:bQ) (G:aX) (c:Nat->Nat) (v:Value) (L:List Mg) (low:Int) (l:List Int):Prop where
 wk:WK w0 w wb n A G c v L
 bk:kH w sb mb low
 si:fC w mb k l
 cs:c sb=9
 cm:c mb=9
theorem qp.step {w0 w:World} {wb sb mb k:Nat} {n:Nd} {A:bQ} {G:aX} {c:Nat->Nat} {v:Value} {L:List Mg} {low:Int} {l:List Int} (h:qp w0 w wb sb mb k n A G c v L low l) (hb:aI w w'):qp w0 w' wb sb mb k n A G c v L low l:=
 ⟨h.wk.step hb,au h.bk hb,h.si.kept (hb.block mb h.si.lt),h.cs,h.cm⟩
theorem qp.ne {w0 w:World} {wb sb mb k:Nat} {n:Nd} {A:bQ} {G:aX} {c:Nat->Nat} {v:Value} {L:List Mg} {low:Int} {l:List Int} (h:qp w0 w wb sb mb k n A G c v L low l):sb≠wb/\mb≠wb:=by
 have h8:=h.wk.cw;refine⟨λe=>?_,λe=>?_⟩
 .have:=h.cs;rw [e,h8] at this;cases this
 .have:=h.cm;rw [e,h8] at this;cases this
theorem qp.settled {w0 w x:World} {wb sb mb k:Nat} {n n':Nd} {A A':bQ} {G G':aX} {c c':Nat->Nat} {v:Value} {L:List Mg} {low:Int} {l:List Int} (h:qp w0 w wb sb mb k n A G c v L low l) (hb:aI w x) (hw:WK w0 w' wb n' A' G' c' v L) (hk:∀k o,k≠wb->x.heap[k]?=some o->w'.heap[k]?=some o) (hc:∀k,k < w.heap.size->c' k=c k):qp w0 w' wb sb mb k n' A' G' c' v L low l:=by
 have h1:=h.step hb;refine⟨hw,hk sb _ h.ne.1 h1.bk,?_,(hc sb (aA h.bk)).trans h.cs,(hc mb h.si.lt).trans h.cm⟩;obtain⟨D,⟨es,clock,hbk,rest⟩,ha⟩:=h1.si;exact⟨D,⟨es,clock,hk mb _ h.ne.2 hbk,rest⟩,ha⟩
theorem qp.put {w0 w:World} {wb sb mb k:Nat} {n:Nd} {A:bQ} {G:aX} {c:Nat->Nat} {v:Value} {L:List Mg} {low x:Int} {l:List Int} (h:qp w0 w wb sb mb k n A G c v L low l) (hs:fC w' mb (k+1) (x::l)) (hk:Keeps mb w w'):qp w0 w' wb sb mb (k+1) n A G c v L low (x::l):=by
 have hne:=h.si.ne h.bk;have hkc:KC c 9 w w':=⟨hk.os,hk.tape,hk.output,hk.size,λy hy hc=>hk.block y hy (λe=>hc (by rw [e];exact h.cm))⟩;exact⟨h.wk.kc hkc Aaa,by unfold kH;rw [hk.block sb (aA h.bk) hne];exact h.bk,hs,h.cs,h.cm⟩
theorem aCo {w:World} {mb k:Nat} {l:List Int} (h:fC w mb k l) (hl:l.Nodup) (d:Nat) (os:Array Obj) (ty:TypeId):(Builtin.len_ #[291] ty #[.map (some mb)]).run prog (Sort.grow (redrawn w d) os)= .ok (.int .i64 l.length) (Sort.grow (redrawn w d) os):=
 (h.kept ((below_regrown w d os).block mb h.lt)).len hl ty
theorem QZ (hnd:l.Nodup) (hf:l.length=40) (h:qp w0 w wb sb mb k n A G c v L low l):Calls prog 248 #[.pointer (some ⟨wb,0,none⟩),nK m,.pointer (some ⟨sb,0,none⟩)] w λe w'=>e= .returned (.bool false)/\aI w w':=by
 have hq:((l.length:Int) == 40)=true:=Aag
 have HW:=Hq h;obtain⟨mK,mF,mT,mI,mL,mk,mN⟩:=m;skip
 open aoe in exact awl
theorem Q0 (E:Nat->Addr) (hz:eU n 1048576) (hk:m.k.size<=1048576) (hi0:0<=m.I) (hi1:m.I<=1000000000) (hkk:k < 1000000) (hnd:l.Nodup) (hf:l.length < 40) (h:qp w0 w wb sb mb k n A G c v L low l) (he:iG w0 E):Calls prog 248 #[.pointer (some ⟨wb,0,none⟩),nK m,.pointer (some ⟨sb,0,none⟩)] w λe w'=>e= .returned (.bool (dJ n.pu m.k 0 1 0 m.N).2)/\(∃A' G' c',qp w0 w' wb sb mb (k+1) (if (dJ n.pu m.k 0 1 0 m.N).2=true then setPu n (dJ n.pu m.k 0 1 0 m.N).1 else n) A' G' c' v L low (if (dJ n.pu m.k 0 1 0 m.N).2=true then m.I::l else l))/\∀j o,j≠wb->j≠mb->w.heap[j]?=some o->w'.heap[j]?=some o:=by
 have hq:((l.length:Int) == 40)=false:=Aag
 have HGN:=Hq (λw1 (hb:aI w w1)=>abF A.p A.cp n.pu m.k m.N E w1 hz.p hz.pk hk (GR.At.below h.wk.no.p.at hb) (he.below (h.wk.keep.trans (hb.mono h.wk.keep.size))));unfold jM at HGN;clear hz hk he;have HW:=Hq h;obtain⟨mK,mF,mT,mI,mL,mk,mN⟩:=m;dsimp only at *;generalize dJ n.pu mk 0 1 0 mN=r at *;open aod in exact awl
theorem WK.seenPut {w0 w:World} {wb:Nat} {n:Nd} {A:bQ} {G:aX} {c:Nat->Nat} {v:Value} {L:List Mg} (h:WK w0 w wb n A G c v L) (k:Nat) (hk:k < n.seen.length) (s:Sn) (b:Option Addr) (cc gi:Nat) (hi:GR.W aU 1 w b gi s.ids) (h5:∀x∈fp gi s.ids,c x=5/\x∉wO G.i n.seen):
 WK w0 (GR.setW w G.s (k*3) [.int .i64 s.f,.int .i64 s.l,.slice b s.ids.length cc]) wb (dM n (n.seen.set k s)) A ⟨G.k,G.p,G.o,G.s,G.r,su G.i k gi⟩ c v L:=by
 have c4:c G.s=4:=h.no.c4 G.s (eu Aaa);have hkc:KC c 4 w (GR.setW w G.s (k*3) [.int .i64 s.f,.int .i64 s.l,.slice b s.ids.length cc]):=KC.setW _ c4;have hN:=h.no;have hlen:(n.seen.set k s).length=n.seen.length:=List.length_set ..
 have hci:∀x∈wO (su G.i k gi) (n.seen.set k s),c x=5:=λx hx=>by
  obtain⟨i,hi',rfl,hpos⟩:=uh hx
  unfold su
  by_cases e:i=k
  .subst e;rw [if_pos rfl];rw [List.getElem_set_self] at hpos;exact(h5 gi (eu hpos)).1
  .rw [if_neg e];rw [List.getElem_set_ne Aaa] at hpos;exact hN.ci _ (lM Aaa _ (eu hpos))
 refine⟨hkc.below h.keep hN.lo Aaa h.keep.size,?_,⟨hkc.w hN.k hN.ck Aaa,hkc.w hN.p hN.cp Aaa,hkc.own hN.o hN.co Aaa,?_,hkc.own hN.r hN.cr Aaa,hN.lo,hN.ck,hN.cp,hN.co,?_,hci,hN.cr,?_⟩,hkc.own h.m h.cm Aaa,h.cm,h.cw⟩
 .have hb:=hkc.obj h.blk (by rw [h.cw];omega)
  have e:VR (dM n (n.seen.set k s)) A v=VR n A v:=by
   unfold VR dM;rw [hlen]
  rw [e];exact hb
 .exact hN.s.store k hk s b cc gi hi (λx hx e=>by have:=hN.ci x hx;rw [e,c4] at this;cases this) (λx hx e=>by have:=(h5 x hx).1;rw [e,c4] at this;cases this)
 .intro x hx;have h1:x=G.s:=(dY hx).1;rw [h1];exact c4
 .show(wO (su G.i k gi) (n.seen.set k s)).Nodup
  have hni:=(oL G.i n.seen).1 hN.ni;rw [oL];intro i j hi' hj' hij h1 h2;have hil:i < n.seen.length:=Aaa
  have hjl:j < n.seen.length:=Aaa
  unfold su;by_cases ei:i=k
  .subst ei;rw [if_pos rfl,if_neg Aaa];rw [List.getElem_set_self] at h1;rw [List.getElem_set_ne Aaa] at h2;exact λe=>(h5 gi (eu h1)).2 (e▸lM hjl _ (eu h2))
  .rw [if_neg ei];rw [List.getElem_set_ne Aaa] at h1;by_cases ej:j=k
   .subst ej;rw [if_pos rfl];rw [List.getElem_set_self] at h2;exact λe=>(h5 gi (eu h2)).2 (e▸lM hil _ (eu h1))
   .rw [if_neg ej];rw [List.getElem_set_ne Aaa] at h2;exact hni i j hil hjl hij h1 h2
theorem akM (f lo:Int) (b:Option Addr) (q cc B:Nat) (m:Mg) (w:World) (hB:w.heap[B]?=some (.cells (bV m.K m.F m.T m.I m.L m.k m.N) 98 (0,0))):
 Calls prog 244 #[.agg #[.int .i64 f,.int .i64 lo,.slice b q cc],.pointer (some ⟨B,0,none⟩)] w (eG w (.bool (f == m.F))):=by
 have hBl:=aA hB;obtain⟨⟨p0,p1,p2,p3,p4,p5,p6⟩,_⟩:=eF hB;clear hB;obtain⟨mK,mF,mT,mI,mL,mk,mN⟩:=m;dsimp only at *;go_in
 exact Vf
theorem aez (a:Option Addr) (cap:Nat) (l:List Sn) (B:Nat) (m:Mg) (w:World) (hl:l.length<=1000) (ha:gZ w a l) (hB:w.heap[B]?=some (.cells (bV m.K m.F m.T m.I m.L m.k m.N) 98 (0,0))) (hf:iA l m.F < l.length):
 Calls prog 243 #[.slice a l.length cap,.func (.func 244) #[] #[.pointer (some ⟨B,0,none⟩)]] w (eG w (.int .i64 (iA l m.F:Nat))):=by
 have HC:=Hq (λf lo b q cc w1 (hb:aI w w1)=>akM f lo b q cc B m w1 (au hB hb));have HA:=Hq ha
 have HN:Hid (∀i (hi:i < l.length),i < iA l m.F->(l[i].f == m.F)=false):=λi hi h=>by
  have:=List.not_of_lt_findIdx h
  simpa using this
 have HY:Hid (∀(hi:iA l m.F < l.length),(l[iA l m.F].f == m.F)=true):=λhi=>by
  have:=List.findIdx_getElem (p:=λt:Sn=>decide (t.f=m.F)) (w:=hi)
  exact beq_iff_eq.2 (of_decide_eq_true this)
 clear ha hB;generalize iA l m.F=R at *;go_in
 go_wp2_with fail;go_loopw [8] (λi wr=>∃k:Nat,k<=R/\i= .int .i64 k/\aI w wr) (λi _=>l.length - (intOf i).toNat)
 case atStart=>exact AQ
 case round=>
  obtain⟨k,hk,rfl,hbw⟩:=hrel;have HB:=Hq hbw;have hkl:k < l.length:=Aaa
  have aBU:(k:Int) < (l.length:Int):=Aaa
  obtain⟨g,off,b,cc,e0,hg,q0,q1,q2,_⟩:=gZ.below HA hbw k hkl;have HCk:=Hq (HC l[k].f l[k].l b l[k].ids.length cc);have HNk:=Hq (HN k hkl)
  have HYk:Hid (k=R->(l[k].f == m.F)=true):=λe=>by
   subst e
   exact HY hkl
  subst e0;clear hbw HC HN HY;generalize l[k]=sk at *;obtain⟨sf,sl,si⟩:=sk;dsimp only at q0 q1 q2 HCk HNk HYk;by_cases hR:k=R
  .have hq:=ah HYk hR;subst hR;open arp in exact UQ
  .have hq:=ah HNk Aaa;open aro in exact UQ
abbrev jI (w:World) (B:Nat) (m:Mg):Prop:=w.heap[B]?=some (.cells (bV m.K m.F m.T m.I m.L m.k m.N) 98 (0,0))
theorem TF {w:World} {j sb mb:Nat} {low:Int} (h:jI w j mm) (hs:kH w sb mb low):j≠sb:=λe=>by
 unfold jI at h;unfold kH at hs;rw [e,hs] at h;simp at h
theorem Xt {w:World} {j wb:Nat} {n:Nd} {A:bQ} {v:Value} (h:jI w j mm) (hs:w.heap[wb]?=some (.cells (VR n A v) 192 (0,0))):j≠wb:=λe=>by
 unfold jI at h;rw [e,hs] at h;simp at h
theorem PO {w:World} {j g i q cc:Nat} {b:Option Addr} (h:jI w j mm) (hc:w.cell? ⟨g,i*3+2,none⟩=some (.slice b q cc)):j≠g:=λe=>by
 subst e;have h1:=cell_of_row w j (i*3+2) _ _ (0,0) h;rw [hc] at h1;rcases i with _|_|i
 .simp at h1
 .simp at h1
 .rw [Array.getElem?_eq_none Aag] at h1;cases h1
theorem ab2 (s:Sn) (low:Int):max s.l low=fE s low:=by
 unfold fE;split<;>omega
theorem qp.lift {w0 w w':World} {wb sb mb k:Nat} {n:Nd} {A:bQ} {G:aX} {c:Nat->Nat} {v:Value} {L:List Mg} {low ayH:Int} {l l':List Int} (h:qp w0 w wb sb mb k n A G c v L low l) (hb:kH w' sb mb ayH) (hs:fC w' mb k l') (hk:aC [sb,mb] w w'):qp w0 w' wb sb mb k n A G c v L ayH l':=
 ⟨h.wk.kc (KC.keeps hk (λx hx=>by
  have h2:x=sb\/x=mb:=Aaf
  rcases h2 with rfl|rfl
  .exact h.cs
  .exact h.cm)) Aaa,hb,hs,h.cs,h.cm⟩
theorem Yx (w0 w:World) (wb:Nat) (n:Nd) (A:bQ) (G:aX) (c:Nat->Nat) (v:Value) (L:List Mg) (m:Mg) (E:Nat->Addr) (i:Nat) (s0:Sn) (TT:Nd×Bool) (hi:i < n.seen.length) (hie:iA n.seen m.F=i) (hs0:n.seen[i]=s0) (hTT:takeN n m=TT) (hsl:n.seen.length<=1000) (hsn:uU s0=true) (hz:eU n 1048576) (hk:m.k.size<=1048576) (hL1:m.L<=1000000000) (hI0:0<=m.I) (hI1:m.I<=1000000000) (h:WK w0 w wb n A G c v L) (he:iG w0 E):
 Calls prog 219 #[.pointer (some ⟨wb,0,none⟩),nK m] w λe w'=>e= .returned (.bool TT.2)/\(∃A' G' c',WK w0 w' wb TT.1 A' G' c' v L)/\∀j mm,jI w j mm->jI w' j mm:=by
 have HIX:=Hq (λB w1 (ha:gZ w1 A.s n.seen) hB=>aez A.s A.cs n.seen B m w1 hsl ha hB (by rw [hie];exact hi));rw [hie] at HIX;have HTH:Hid (rF s0 m.L m.I=true->_):=λh=>hTT.symm.trans (J2 hi hie hs0 h)
 have Rz:Hid (rF s0 m.L m.I=false->lN n s0 m=true->_):=λh hg=>hTT.symm.trans (FX hi hie hs0 h hg)
 have HTN:Hid (rF s0 m.L m.I=false->lN n s0 m=false->_):=λh hg=>hTT.symm.trans (QS hi hie hs0 h hg)
 have CQ:=Hq (sH (K7 hsn hL1));have adE:=Hq (sH hsn);have HMX:=Hq (ab2 s0 m.L);have HGS:=Hq (λw sb mb k A G c low l hkk hnd hf h=>Q0 w0 w wb sb mb k n A G c v L m low l E hz hk hI0 hI1 hkk hnd hf h he);have HGF:=Hq (λw sb mb k A G c low l hnd hf h=>QZ w0 w wb sb mb k n A G c v L m low l hnd hf h);have NI:=Hq hs0;clear hz hk he hsn hL1 hTT hie hs0;have HW:=Hq h;obtain⟨mK,mF,mT,mI,mL,mk,mN⟩:=m;dsimp only at *;open atN in exact ZW
theorem adf (w0 w:World) (wb:Nat) (n:Nd) (A:bQ) (G:aX) (c:Nat->Nat) (v:Value) (L:List Mg) (m:Mg) (E:Nat->Addr) (hz:eU n 1048576) (hok:dW n=true) (hF:dZ n m.F=true) (hk:m.k.size<=1048576) (hL1:m.L<=1000000000) (hI0:0<=m.I) (hI1:m.I<=1000000000) (h:WK w0 w wb n A G c v L) (he:iG w0 E):
 Calls prog 219 #[.pointer (some ⟨wb,0,none⟩),nK m] w λe w'=>e= .returned (.bool (takeN n m).2)/\(∃A' G' c',WK w0 w' wb (takeN n m).1 A' G' c' v L)/\∀j mm,jI w j mm->jI w' j mm:=by
 obtain⟨hi,hif⟩:=Fv hok hF;have hsn:=zX hok _ (List.getElem_mem hi)
 have hsl:n.seen.length<=1000:=by
  exact axJ
 exact Yx w0 w wb n A G c v L m E _ _ _ hi rfl rfl rfl hsl hsn hz hk hL1 hI0 hI1 h he
open Go.RowKit
namespace Mth
def gQ (n:Nd) (L:List gK):Nd:=L.foldl (λm o=>(YJ m o).1) n
theorem JK {n:Nd} {L:List gK} {k:Nat} (hk:k < L.length):gQ n (L.take (k+1))=(YJ (gQ n (L.take k)) L[k]).1:=by
 unfold gQ;rw [List.take_succ_eq_append_getElem hk,List.foldl_append];rfl
theorem acw {n:Nd} (h:dW n=false) (L:List gK):gQ n L=n:=by
 induction L with
 |nil=>rfl
 |cons o L ih=>
  have e:gQ n (o::L)=gQ (YJ n o).1 L:=rfl;rw [e,KG h];exact ih
theorem VB {n:Nd} (h:dW n=true) (L:List gK):dW (gQ n L)=true:=by
 induction L generalizing n with
 |nil=>exact h
 |cons o L ih=>exact ih (Vx h)
theorem LY {n:Nd} (h:eU n 1048576) (L:List gK):eU (gQ n L) 1048576:=by
 induction L generalizing n with
 |nil=>exact h
 |cons o L ih=>exact ih (axO h)
theorem azm {a:Nat} (h:Dk s a=true):cu (opC (Gh s a))=true:=by
 have hg:=(sJ h).2.2.2.2.2.1;unfold kE at hg;simp only[Bool.and_eq_true] at hg;exact hg.2
theorem JR (s:ByteArray):∀(f a:Nat),a<=s.size->(rT s f a).1.length+a<=s.size
 |0,a,h=>by simpa [rT] using h
 |f+1,a,h=>by
  unfold rT
  split
  .rename_i hs
   obtain⟨p1,_,_,p2,p3,_⟩:=sJ hs;have:=JR s f (Gz s a).toNat Aaa;rw [List.length_cons];omega
  .simpa using h
theorem Qi (s:ByteArray):∀(f a:Nat),∀o∈(rT s f a).1,cu o=true
 |0,_,o,h=>by simp[rT] at h
 |f+1,a,o,h=>by
  unfold rT at h
  split at h
  .rename_i hs
   rcases List.mem_cons.1 h with rfl|h
   .exact azm hs
   .exact Qi s f _ o h
  .simp at h
theorem TI (h:s.toList=[]):s.size<=1048576:=by
 have e:s=ByteArray.empty:=toList_inj (h.trans (by decide+kernel));rw [e];decide
theorem Vy {o:gK} (h:cu o=true):o.k.size<=1048576/\o.m.k.size<=1048576:=by
 have zm:lF o.m=true->o.m.k.size<=1048576:=λh=>by
  unfold lF at h
  exact TI (of_decide_eq_true h).2.2.2.2.2.1
 unfold cu at h;split at h
 .simp only[Bool.and_eq_true] at h;exact⟨pU h.1.1.1,zm h.2⟩
 split at h
 .simp only[Bool.and_eq_true] at h;exact⟨pU h.1.1.1,zm h.2⟩
 split at h
 .exact aiB
 split at h
 .exact aiB
 split at h
 .simp only[Bool.and_eq_true] at h;refine⟨TI (of_decide_eq_true h.1.1.1),?_⟩;have hm:=h.2;unfold cZ at hm;simp only[Bool.and_eq_true] at hm;have h2:=hm.2;split at h2
  .simp only[Bool.and_eq_true] at h2;exact pU h2.1.1.1
  split at h2
  .simp only[Bool.and_eq_true] at h2;exact pU h2.1.1.1
  split at h2
  .simp only[Bool.and_eq_true,decide_eq_true_eq] at h2;omega
  .cases h2
 .cases h
theorem Qe (s:ByteArray):∀o∈(gH s).1,cu o=true:=by
 unfold gH;split
 .exact Qi s _ _
 .intro o h;simp at h
theorem JN (s:ByteArray):(gH s).1.length<=60000:=by
 unfold gH;split
 .rename_i h
  have:=JR s (s.size+1) 0 (Nat.zero_le _);omega
 .simp
end Mth
end Go.Proofs.YtohmklmkjmlpjaaGreatDoor
