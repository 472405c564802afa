/- Parts. -/
import Derived.Test.YtacgbldlonoaaaaGreatDoorRr34
namespace Go.Proofs.YtacgbldlonoaaaaGreatDoor
set_option maxHeartbeats 8000000
set_option maxRecDepth 100000
open Go.RowKit Go.Maps
open Mth
structure pJ (w0 w:World) (wb sb mb k:Nat) (n:Nd) (A:bH) (G:aV) (c:Nat->Nat) (v:Value) (L:List Mg) (low:Int) (l:List Int):Prop where
 wk:WK w0 w wb n A G c v L
 bk:ku w sb mb low
 si:fA w mb k l
 cs:c sb=9
 cm:c mb=9
theorem pJ.step {w0 w w':World} {wb sb mb k:Nat} {n:Nd} {A:bH} {G:aV} {c:Nat->Nat} {v:Value} {L:List Mg} {low:Int} {l:List Int} (h:pJ w0 w wb sb mb k n A G c v L low l) (hb:aX w w'):pJ w0 w' wb sb mb k n A G c v L low l:=
 ⟨h.wk.step hb,ay h.bk hb,h.si.kept (hb.block mb h.si.lt),h.cs,h.cm⟩
theorem pJ.ne {w0 w:World} {wb sb mb k:Nat} {n:Nd} {A:bH} {G:aV} {c:Nat->Nat} {v:Value} {L:List Mg} {low:Int} {l:List Int} (h:pJ w0 w wb sb mb k n A G c v L low l):sb≠wb/\mb≠wb:=by
 have h8:=h.wk.cw;refine⟨λe=>?_,λe=>?_⟩
 .have:=h.cs;rw [e,h8] at this;cases this
 .have:=h.cm;rw [e,h8] at this;cases this
theorem pJ.settled {w0 w x w':World} {wb sb mb k:Nat} {n n':Nd} {A A':bH} {G G':aV} {c c':Nat->Nat} {v:Value} {L:List Mg} {low:Int} {l:List Int} (h:pJ w0 w wb sb mb k n A G c v L low l) (hb:aX w x) (hw:WK w0 w' wb n' A' G' c' v L) (hk:∀k o,k≠wb->x.heap[k]?=some o->w'.heap[k]?=some o) (hc:∀k,k < w.heap.size->c' k=c k):pJ w0 w' wb sb mb k n' A' G' c' v L low l:=by
 have h1:=h.step hb;refine⟨hw,hk sb _ h.ne.1 h1.bk,?_,(hc sb (aA h.bk)).trans h.cs,(hc mb h.si.lt).trans h.cm⟩;obtain⟨D,⟨es,clock,hbk,rest⟩,ha⟩:=h1.si;exact⟨D,⟨es,clock,hk mb _ h.ne.2 hbk,rest⟩,ha⟩
theorem pJ.put {w0 w w':World} {wb sb mb k:Nat} {n:Nd} {A:bH} {G:aV} {c:Nat->Nat} {v:Value} {L:List Mg} {low x:Int} {l:List Int} (h:pJ w0 w wb sb mb k n A G c v L low l) (hs:fA w' mb (k+1) (x::l)) (hk:Keeps mb w w'):pJ w0 w' wb sb mb (k+1) n A G c v L low (x::l):=by
 have hne:=h.si.ne h.bk;have hkc:KC c 9 w w':=⟨hk.os,hk.tape,hk.output,hk.size,λy hy hc=>hk.block y hy (λe=>hc (by rw [e];exact h.cm))⟩;exact⟨h.wk.kc hkc Aaa,by unfold ku;rw [hk.block sb (aA h.bk) hne];exact h.bk,hs,h.cs,h.cm⟩
theorem awW {w:World} {mb k:Nat} {l:List Int} (h:fA w mb k l) (hl:l.Nodup) (d:Nat) (os:Array Obj) (ty:TypeId):(Builtin.len_ #[259] ty #[.map (some mb)]).run Tryz.prog (Sort.grow (redrawn w d) os)= .ok (.int .i64 l.length) (Sort.grow (redrawn w d) os):=
 (h.kept ((below_regrown w d os).block mb h.lt)).len hl ty
theorem OO (w0 w:World) (wb sb mb k:Nat) (n:Nd) (A:bH) (G:aV) (c:Nat->Nat) (v:Value) (L:List Mg) (m:Mg) (low:Int) (l:List Int) (hnd:l.Nodup) (hf:l.length=40) (h:pJ w0 w wb sb mb k n A G c v L low l):Calls Tryz.prog 198 #[.pointer (some ⟨wb,0,none⟩),nS m,.pointer (some ⟨sb,0,none⟩)] w λe w'=>e= .returned (.bool false)/\aX w w':=by
 have hq:((l.length:Int) == 40)=true:=Aag
 have HW:=Hq h;obtain⟨mK,mF,mT,mI,mL,mk,mN⟩:=m;skip
 open ajJ in exact arH
theorem OP (w0 w:World) (wb sb mb k:Nat) (n:Nd) (A:bH) (G:aV) (c:Nat->Nat) (v:Value) (L:List Mg) (m:Mg) (low:Int) (l:List Int) (E:Nat->Addr) (hz:fu n 1048576) (hk:m.k.size<=1048576) (hi0:0<=m.I) (hi1:m.I<=1000000000) (hkk:k < 1000000) (hnd:l.Nodup) (hf:l.length < 40) (h:pJ w0 w wb sb mb k n A G c v L low l) (he:iG w0 E):Calls Tryz.prog 198 #[.pointer (some ⟨wb,0,none⟩),nS m,.pointer (some ⟨sb,0,none⟩)] w λe w'=>e= .returned (.bool (dx n.pu m.k 0 1 0 m.N).2)/\(∃A' G' c',pJ w0 w' wb sb mb (k+1) (if (dx n.pu m.k 0 1 0 m.N).2=true then setPu n (dx n.pu m.k 0 1 0 m.N).1 else n) A' G' c' v L low (if (dx n.pu m.k 0 1 0 m.N).2=true then m.I::l else l))/\∀j o,j≠wb->j≠mb->w.heap[j]?=some o->w'.heap[j]?=some o:=by
 have hq:((l.length:Int) == 40)=false:=Aag
 have HGN:=Hq (λw1 (hb:aX w w1)=>Yv A.p A.cp n.pu m.k m.N E w1 hz.p hz.pk hk (GR.At.below h.wk.no.p.at hb) (he.below (h.wk.keep.trans (hb.mono h.wk.keep.size))));unfold jD at HGN;clear hz hk he;have HW:=Hq h;obtain⟨mK,mF,mT,mI,mL,mk,mN⟩:=m;dsimp only at *;generalize dx n.pu mk 0 1 0 mN=r at *;open ajI in exact arH
theorem WK.seenPut {w0 w:World} {wb:Nat} {n:Nd} {A:bH} {G:aV} {c:Nat->Nat} {v:Value} {L:List Mg} (h:WK w0 w wb n A G c v L) (k:Nat) (hk:k < n.seen.length) (s:Sn) (b:Option Addr) (cc gi:Nat) (hi:GR.W aW 1 w b gi s.ids) (h5:∀x∈fp gi s.ids,c x=5/\x∉qw G.i n.seen):
 WK w0 (GR.setW w G.s (k*3) [.int .i64 s.f,.int .i64 s.l,.slice b s.ids.length cc]) wb (dB n (n.seen.set k s)) A ⟨G.k,G.p,G.o,G.s,G.r,qZ G.i k gi⟩ c v L:=by
 have c4:c G.s=4:=h.no.c4 G.s (dQ Aaa);have hkc:KC c 4 w (GR.setW w G.s (k*3) [.int .i64 s.f,.int .i64 s.l,.slice b s.ids.length cc]):=KC.setW _ c4;have hN:=h.no;have hlen:(n.seen.set k s).length=n.seen.length:=List.length_set ..
 have hci:∀x∈qw (qZ G.i k gi) (n.seen.set k s),c x=5:=λx hx=>by
  obtain⟨i,hi',rfl,hpos⟩:=uG hx
  unfold qZ
  by_cases e:i=k
  .subst e;rw [if_pos rfl];rw [List.getElem_set_self] at hpos;exact(h5 gi (dQ hpos)).1
  .rw [if_neg e];rw [List.getElem_set_ne Aaa] at hpos;exact hN.ci _ (jw Aaa _ (dQ hpos))
 refine⟨hkc.below h.keep hN.lo Aaa h.keep.size,?_,⟨hkc.w hN.k hN.ck Aaa,hkc.w hN.p hN.cp Aaa,hkc.own hN.o hN.co Aaa,?_,hkc.own hN.r hN.cr Aaa,hN.lo,hN.ck,hN.cp,hN.co,?_,hci,hN.cr,?_⟩,hkc.own h.m h.cm Aaa,h.cm,h.cw⟩
 .have hb:=hkc.obj h.blk (by rw [h.cw];omega)
  have e:Kz (dB n (n.seen.set k s)) A v=Kz n A v:=by
   unfold Kz dB;rw [hlen]
  rw [e];exact hb
 .exact hN.s.store k hk s b cc gi hi (λx hx e=>by have:=hN.ci x hx;rw [e,c4] at this;cases this) (λx hx e=>by have:=(h5 x hx).1;rw [e,c4] at this;cases this)
 .intro x hx;have h1:x=G.s:=(gH hx).1;rw [h1];exact c4
 .show(qw (qZ G.i k gi) (n.seen.set k s)).Nodup
  have hni:=(nZ G.i n.seen).1 hN.ni;rw [nZ];intro i j hi' hj' hij h1 h2;have hil:i < n.seen.length:=Aaa
  have hjl:j < n.seen.length:=Aaa
  unfold qZ;by_cases ei:i=k
  .subst ei;rw [if_pos rfl,if_neg Aaa];rw [List.getElem_set_self] at h1;rw [List.getElem_set_ne Aaa] at h2;exact λe=>(h5 gi (dQ h1)).2 (e▸jw hjl _ (dQ h2))
  .rw [if_neg ei];rw [List.getElem_set_ne Aaa] at h1;by_cases ej:j=k
   .subst ej;rw [if_pos rfl];rw [List.getElem_set_self] at h2;exact λe=>(h5 gi (dQ h2)).2 (e▸jw hil _ (dQ h1))
   .rw [if_neg ej];rw [List.getElem_set_ne Aaa] at h2;exact hni i j hil hjl hij h1 h2
theorem agl (f lo:Int) (b:Option Addr) (q cc B:Nat) (m:Mg) (w:World) (hB:w.heap[B]?=some (.cells (bJ m.K m.F m.T m.I m.L m.k m.N) 32 (0,0))):
 Calls Tryz.prog 194 #[.agg #[.int .i64 f,.int .i64 lo,.slice b q cc],.pointer (some ⟨B,0,none⟩)] w (eP w (.bool (f == m.F))):=by
 have hBl:=aA hB;obtain⟨⟨p0,p1,p2,p3,p4,p5,p6⟩,_⟩:=dG hB;clear hB;obtain⟨mK,mF,mT,mI,mL,mk,mN⟩:=m;dsimp only at *;go_enter Tryz.func194,Tryz.ntmps194
 exact aaP
theorem aa8 (a:Option Addr) (cap:Nat) (l:List Sn) (B:Nat) (m:Mg) (w:World) (hl:l.length<=1000) (ha:lu w a l) (hB:w.heap[B]?=some (.cells (bJ m.K m.F m.T m.I m.L m.k m.N) 32 (0,0))) (hf:gW l m.F < l.length):
 Calls Tryz.prog 193 #[.slice a l.length cap,.func (.func 194) #[] #[.pointer (some ⟨B,0,none⟩)]] w (eP w (.int .i64 (gW l m.F:Nat))):=by
 have HC:=Hq (λf lo b q cc w1 (hb:aX w w1)=>agl f lo b q cc B m w1 (ay hB hb));have HA:=Hq ha
 have HN:Hid (∀i (hi:i < l.length),i < gW l m.F->(l[i].f == m.F)=false):=λi hi h=>by
  have:=List.not_of_lt_findIdx h
  simpa using this
 have HY:Hid (∀(hi:gW l m.F < l.length),(l[gW l m.F].f == m.F)=true):=λhi=>by
  have:=List.findIdx_getElem (p:=λt:Sn=>decide (t.f=m.F)) (w:=hi)
  exact beq_iff_eq.2 (of_decide_eq_true this)
 clear ha hB;generalize gW l m.F=R at *;go_enter Tryz.func193,Tryz.ntmps193
 go_wp2_with fail;go_loopw [8] (λi wr=>∃k:Nat,k<=R/\i= .int .i64 k/\aX w wr) (λi _=>l.length - (intOf i).toNat)
 case atStart=>exact Rv
 case round=>
  obtain⟨k,hk,rfl,hbw⟩:=hrel;have HB:=Hq hbw;have hkl:k < l.length:=Aaa
  have awr:(k:Int) < (l.length:Int):=Aaa
  obtain⟨g,off,b,cc,e0,hg,q0,q1,q2,_⟩:=lu.below HA hbw k hkl;have HCk:=Hq (HC l[k].f l[k].l b l[k].ids.length cc);have HNk:=Hq (HN k hkl)
  have HYk:Hid (k=R->(l[k].f == m.F)=true):=λe=>by
   subst e
   exact HY hkl
  subst e0;clear hbw HC HN HY;generalize l[k]=sk at *;obtain⟨sf,sl,si⟩:=sk;dsimp only at q0 q1 q2 HCk HNk HYk;by_cases hR:k=R
  .have hq:=ah HYk hR;subst hR;open amH in exact Rj
  .have hq:=ah HNk Aaa;open amG in exact Rj
abbrev fT (w:World) (B:Nat) (m:Mg):Prop:=w.heap[B]?=some (.cells (bJ m.K m.F m.T m.I m.L m.k m.N) 32 (0,0))
theorem Qn {w:World} {j sb mb:Nat} {mm:Mg} {low:Int} (h:fT w j mm) (hs:ku w sb mb low):j≠sb:=λe=>by
 unfold fT at h;unfold ku at hs;rw [e,hs] at h;simp at h
theorem Um {w:World} {j wb:Nat} {mm:Mg} {n:Nd} {A:bH} {v:Value} (h:fT w j mm) (hs:w.heap[wb]?=some (.cells (Kz n A v) 74 (0,0))):j≠wb:=λe=>by
 unfold fT at h;rw [e,hs] at h;simp at h
theorem qb {w:World} {j g i q cc:Nat} {mm:Mg} {b:Option Addr} (h:fT w j mm) (hc:w.cell? ⟨g,i*3+2,none⟩=some (.slice b q cc)):j≠g:=λe=>by
 subst e;have h1:=cell_of_row w j (i*3+2) _ _ (0,0) h;rw [hc] at h1;rcases i with _|_|i
 .simp at h1
 .simp at h1
 .rw [Array.getElem?_eq_none Aag] at h1;cases h1
theorem YV (s:Sn) (low:Int):max s.l low=eH s low:=by
 unfold eH;split<;>omega
theorem pJ.lift {w0 w w':World} {wb sb mb k:Nat} {n:Nd} {A:bH} {G:aV} {c:Nat->Nat} {v:Value} {L:List Mg} {low atJ:Int} {l l':List Int} (h:pJ w0 w wb sb mb k n A G c v L low l) (hb:ku w' sb mb atJ) (hs:fA w' mb k l') (hk:aC [sb,mb] w w'):pJ w0 w' wb sb mb k n A G c v L atJ l':=
 ⟨h.wk.kc (KC.keeps hk (λx hx=>by
  have h2:x=sb\/x=mb:=Aaf
  rcases h2 with rfl|rfl
  .exact h.cs
  .exact h.cm)) Aaa,hb,hs,h.cs,h.cm⟩
theorem Vh (w0 w:World) (wb:Nat) (n:Nd) (A:bH) (G:aV) (c:Nat->Nat) (v:Value) (L:List Mg) (m:Mg) (E:Nat->Addr) (i:Nat) (s0:Sn) (TT:Nd×Bool) (hi:i < n.seen.length) (hie:gW n.seen m.F=i) (hs0:n.seen[i]=s0) (hTT:takeN n m=TT) (hsl:n.seen.length<=1000) (hsn:uh s0=true) (hz:fu n 1048576) (hk:m.k.size<=1048576) (hL1:m.L<=1000000000) (hI0:0<=m.I) (hI1:m.I<=1000000000) (h:WK w0 w wb n A G c v L) (he:iG w0 E):
 Calls Tryz.prog 170 #[.pointer (some ⟨wb,0,none⟩),nS m] w λe w'=>e= .returned (.bool TT.2)/\(∃A' G' c',WK w0 w' wb TT.1 A' G' c' v L)/\∀j mm,fT w j mm->fT w' j mm:=by
 have HIX:=Hq (λB w1 (ha:lu w1 A.s n.seen) hB=>aa8 A.s A.cs n.seen B m w1 hsl ha hB (by rw [hie];exact hi));rw [hie] at HIX;have HTH:Hid (qH s0 m.L m.I=true->_):=λh=>hTT.symm.trans (Iu hi hie hs0 h)
 have Pk:Hid (qH s0 m.L m.I=false->lD n s0 m=true->_):=λh hg=>hTT.symm.trans (Ep hi hie hs0 h hg)
 have HTN:Hid (qH s0 m.L m.I=false->lD n s0 m=false->_):=λh hg=>hTT.symm.trans (OE hi hie hs0 h hg)
 have Bj:=Hq (rz (Jm hsn hL1));have aay:=Hq (rz hsn);have HMX:=Hq (YV s0 m.L);have HGS:=Hq (λw sb mb k A G c low l hkk hnd hf h=>OP w0 w wb sb mb k n A G c v L m low l E hz hk hI0 hI1 hkk hnd hf h he);have HGF:=Hq (λw sb mb k A G c low l hnd hf h=>OO w0 w wb sb mb k n A G c v L m low l hnd hf h);have HS0:=Hq hs0;clear hz hk he hsn hL1 hTT hie hs0;have HW:=Hq h;obtain⟨mK,mF,mT,mI,mL,mk,mN⟩:=m;dsimp only at *;open aoZ in exact WQ
theorem ZX (w0 w:World) (wb:Nat) (n:Nd) (A:bH) (G:aV) (c:Nat->Nat) (v:Value) (L:List Mg) (m:Mg) (E:Nat->Addr) (hz:fu n 1048576) (hok:dU n=true) (hF:dV n m.F=true) (hk:m.k.size<=1048576) (hL1:m.L<=1000000000) (hI0:0<=m.I) (hI1:m.I<=1000000000) (h:WK w0 w wb n A G c v L) (he:iG w0 E):
 Calls Tryz.prog 170 #[.pointer (some ⟨wb,0,none⟩),nS m] w λe w'=>e= .returned (.bool (takeN n m).2)/\(∃A' G' c',WK w0 w' wb (takeN n m).1 A' G' c' v L)/\∀j mm,fT w j mm->fT w' j mm:=by
 obtain⟨hi,hif⟩:=D6 hok hF;have hsn:=yL hok _ (List.getElem_mem hi)
 have hsl:n.seen.length<=1000:=by
  exact asG
 exact Vh w0 w wb n A G c v L m E _ _ _ hi rfl rfl rfl hsl hsn hz hk hL1 hI0 hI1 h he
end Go.Proofs.YtacgbldlonoaaaaGreatDoor
