/- Parts. -/
import Derived.Test.YtohmklmkjmlpjaaGreatDoorRc29
import Derived.Test.YtohmklmkjmlpjaaGreatDoorRc40
namespace Go.Proofs.YtohmklmkjmlpjaaGreatDoor
open Go.Proofs.Tryz
set_option maxHeartbeats 8000000
set_option maxRecDepth 100000
open Go.RowKit Go.Maps
open Mth
variable (w0 w:World) (wb sb mb k:Nat) (n:Nd) (A:bV) (G:aR) (c:Nat->Nat) (v:Value) (L:List Mg) (m:Mg) (low:Int) (l:List Int) {w':World} {mm:Mg}
structure ru (w0 w:World) (wb sb mb k:Nat) (n:Nd) (A:bV) (G:aR) (c:Nat->Nat) (v:Value) (L:List Mg) (low:Int) (l:List Int):Prop where
 wk:WK w0 w wb n A G c v L
 bk:lI w sb mb low
 si:fJ w mb k l
 cs:c sb=9
 cm:c mb=9
theorem ru.step {w0 w:World} {wb sb mb k:Nat} {n:Nd} {A:bV} {G:aR} {c:Nat->Nat} {v:Value} {L:List Mg} {low:Int} {l:List Int} (h:ru w0 w wb sb mb k n A G c v L low l) (hb:aI w w'):ru w0 w' wb sb mb k n A G c v L low l:=
 ⟨h.wk.step hb,au h.bk hb,h.si.kept (hb.block mb h.si.lt),h.cs,h.cm⟩
theorem ru.ne {w0 w:World} {wb sb mb k:Nat} {n:Nd} {A:bV} {G:aR} {c:Nat->Nat} {v:Value} {L:List Mg} {low:Int} {l:List Int} (h:ru w0 w wb sb mb k n A G c v L low l):sb≠wb/\mb≠wb:=by
 have h8:=h.wk.cw;refine⟨λe=>?_,λe=>?_⟩
 .have:=h.cs;rw [e,h8] at this;cases this
 .have:=h.cm;rw [e,h8] at this;cases this
theorem ru.settled {w0 w x:World} {wb sb mb k:Nat} {n n':Nd} {A A':bV} {G G':aR} {c c':Nat->Nat} {v:Value} {L:List Mg} {low:Int} {l:List Int} (h:ru w0 w wb sb mb k n A G c v L low l) (hb:aI w x) (hw:WK w0 w' wb n' A' G' c' v L) (hk:∀k o,k≠wb->x.heap[k]?=some o->w'.heap[k]?=some o) (hc:∀k,k < w.heap.size->c' k=c k):ru w0 w' wb sb mb k n' A' G' c' v L low l:=by
 have h1:=h.step hb;refine⟨hw,hk sb _ h.ne.1 h1.bk,?_,(hc sb (aA h.bk)).trans h.cs,(hc mb h.si.lt).trans h.cm⟩;obtain⟨D,⟨es,clock,hbk,rest⟩,ha⟩:=h1.si;exact⟨D,⟨es,clock,hk mb _ h.ne.2 hbk,rest⟩,ha⟩
theorem ru.put {w0 w:World} {wb sb mb k:Nat} {n:Nd} {A:bV} {G:aR} {c:Nat->Nat} {v:Value} {L:List Mg} {low x:Int} {l:List Int} (h:ru w0 w wb sb mb k n A G c v L low l) (hs:fJ w' mb (k+1) (x::l)) (hk:Keeps mb w w'):ru w0 w' wb sb mb (k+1) n A G c v L low (x::l):=by
 have hne:=h.si.ne h.bk;have hkc:KC c 9 w w':=⟨hk.os,hk.tape,hk.output,hk.size,λy hy hc=>hk.block y hy (λe=>hc (by rw [e];exact h.cm))⟩;exact⟨h.wk.kc hkc Aaa,by unfold lI;rw [hk.block sb (aA h.bk) hne];exact h.bk,hs,h.cs,h.cm⟩
theorem aEv {w:World} {mb k:Nat} {l:List Int} (h:fJ w mb k l) (hl:l.Nodup) (d:Nat) (os:Array Obj) (ty:TypeId):(Builtin.len_ #[291] ty #[.map (some mb)]).run prog (Sort.grow (redrawn w d) os)= .ok (.int .i64 l.length) (Sort.grow (redrawn w d) os):=
 (h.kept ((aHr w d os).block mb h.lt)).len hl ty
theorem Sb (hnd:l.Nodup) (hf:l.length=40) (h:ru w0 w wb sb mb k n A G c v L low l):Calls prog 248 #[.pointer (some ⟨wb,0,none⟩),oz m,.pointer (some ⟨sb,0,none⟩)] w λe w'=>e= .returned (.bool false)/\aI w w':=by
 have hq:((l.length:Int) == 40)=true:=Aag
 have HW:=Hq h;obtain⟨mK,mF,mT,mI,mL,mk,mN⟩:=m;skip
 open apT in exact ayv
theorem Sc (E:Nat->Addr) (hz:eG n 1048576) (hk:m.k.size<=1048576) (hi0:0<=m.I) (hi1:m.I<=1000000000) (hkk:k < 1000000) (hnd:l.Nodup) (hf:l.length < 40) (h:ru w0 w wb sb mb k n A G c v L low l) (he:iK w0 E):Calls prog 248 #[.pointer (some ⟨wb,0,none⟩),oz m,.pointer (some ⟨sb,0,none⟩)] w λe w'=>e= .returned (.bool (dK n.pu m.k 0 1 0 m.N).2)/\(∃A' G' c',ru w0 w' wb sb mb (k+1) (if (dK n.pu m.k 0 1 0 m.N).2=true then setPu n (dK n.pu m.k 0 1 0 m.N).1 else n) A' G' c' v L low (if (dK n.pu m.k 0 1 0 m.N).2=true then m.I::l else l))/\∀j o,j≠wb->j≠mb->w.heap[j]?=some o->w'.heap[j]?=some o:=by
 have hq:((l.length:Int) == 40)=false:=Aag
 have HGN:=Hq (λw1 (hb:aI w w1)=>acL A.p A.cp n.pu m.k m.N E w1 hz.p hz.pk hk (GR.At.below h.wk.no.p.at hb) (he.below (h.wk.keep.trans (hb.mono h.wk.keep.size))));unfold kH at HGN;clear hz hk he;have HW:=Hq h;obtain⟨mK,mF,mT,mI,mL,mk,mN⟩:=m;dsimp only at *;generalize dK n.pu mk 0 1 0 mN=r at *;open apS in exact ayv
theorem WK.seenPut {w0 w:World} {wb:Nat} {n:Nd} {A:bV} {G:aR} {c:Nat->Nat} {v:Value} {L:List Mg} (h:WK w0 w wb n A G c v L) (k:Nat) (hk:k < n.seen.length) (s:Sn) (b:Option Addr) (cc gi:Nat) (hi:GR.W aS 1 w b gi s.ids) (h5:∀x∈fp gi s.ids,c x=5/\x∉nA G.i n.seen):
 WK w0 (GR.setW w G.s (k*3) [.int .i64 s.f,.int .i64 s.l,.slice b s.ids.length cc]) wb (dM n (n.seen.set k s)) A ⟨G.k,G.p,G.o,G.s,G.r,tY G.i k gi⟩ c v L:=by
 have c4:c G.s=4:=h.no.c4 G.s (dX Aaa);have hkc:KC c 4 w (GR.setW w G.s (k*3) [.int .i64 s.f,.int .i64 s.l,.slice b s.ids.length cc]):=KC.setW _ c4;have hN:=h.no;have hlen:(n.seen.set k s).length=n.seen.length:=aHU ..
 have hci:∀x∈nA (tY G.i k gi) (n.seen.set k s),c x=5:=λx hx=>by
  obtain⟨i,hi',rfl,hpos⟩:=qM hx
  unfold tY
  by_cases e:i=k
  .subst e;rw [aGC rfl];rw [aGO] at hpos;exact(h5 gi (dX hpos)).1
  .rw [aGr e];rw [aGQ Aaa] at hpos;exact hN.ci _ (jI Aaa _ (dX hpos))
 refine⟨hkc.below h.keep hN.lo Aaa h.keep.size,?_,⟨hkc.w hN.k hN.ck Aaa,hkc.w hN.p hN.cp Aaa,hkc.own hN.o hN.co Aaa,?_,hkc.own hN.r hN.cr Aaa,hN.lo,hN.ck,hN.cp,hN.co,?_,hci,hN.cr,?_⟩,hkc.own h.m h.cm Aaa,h.cm,h.cw⟩
 .have hb:=hkc.obj h.blk (by rw [h.cw];omega)
  have e:Xx (dM n (n.seen.set k s)) A v=Xx n A v:=by
   unfold Xx dM;rw [hlen]
  rw [e];exact hb
 .exact hN.s.store k hk s b cc gi hi (λx hx e=>by have:=hN.ci x hx;rw [e,c4] at this;cases this) (λx hx e=>by have:=(h5 x hx).1;rw [e,c4] at this;cases this)
 .intro x hx;have h1:x=G.s:=(dQ hx).1;rw [h1];exact c4
 .show(nA (tY G.i k gi) (n.seen.set k s)).Nodup
  have hni:=(qj G.i n.seen).1 hN.ni;rw [qj];intro i j hi' hj' hij h1 h2;have hil:i < n.seen.length:=Aaa
  have hjl:j < n.seen.length:=Aaa
  unfold tY;by_cases ei:i=k
  .subst ei;rw [aGC rfl,aGr Aaa];rw [aGO] at h1;rw [aGQ Aaa] at h2;exact λe=>(h5 gi (dX h1)).2 (e▸jI hjl _ (dX h2))
  .rw [aGr ei];rw [aGQ Aaa] at h1;by_cases ej:j=k
   .subst ej;rw [aGC rfl];rw [aGO] at h2;exact λe=>(h5 gi (dX h2)).2 (e▸jI hil _ (dX h1))
   .rw [aGr ej];rw [aGQ Aaa] at h2;exact hni i j hil hjl hij h1 h2
theorem alW (f lo:Int) (b:Option Addr) (q cc B:Nat) (m:Mg) (w:World) (hB:w.heap[B]?=some (.cells (bX m.K m.F m.T m.I m.L m.k m.N) 98 (0,0))):
 Calls prog 244 #[.agg #[.int .i64 f,.int .i64 lo,.slice b q cc],.pointer (some ⟨B,0,none⟩)] w (dZ w (.bool (f == m.F))):=by
 have hBl:=aA hB;obtain⟨⟨p0,p1,p2,p3,p4,p5,p6⟩,_⟩:=eT hB;clear hB;obtain⟨mK,mF,mT,mI,mL,mk,mN⟩:=m;dsimp only at *;go_in
 exact Wy
theorem afB (a:Option Addr) (cap:Nat) (l:List Sn) (B:Nat) (m:Mg) (w:World) (hl:l.length<=1000) (ha:iW w a l) (hB:w.heap[B]?=some (.cells (bX m.K m.F m.T m.I m.L m.k m.N) 98 (0,0))) (hf:iJ l m.F < l.length):
 Calls prog 243 #[.slice a l.length cap,.func (.func 244) #[] #[.pointer (some ⟨B,0,none⟩)]] w (dZ w (.int .i64 (iJ l m.F:Nat))):=by
 have HC:=Hq (λf lo b q cc w1 (hb:aI w w1)=>alW f lo b q cc B m w1 (au hB hb));have HA:=Hq ha
 have HN:Hid (∀i (hi:i < l.length),i < iJ l m.F->(l[i].f == m.F)=false):=λi hi h=>by
  have:=List.not_of_lt_findIdx h
  simpa using this
 have HY:Hid (∀(hi:iJ l m.F < l.length),(l[iJ l m.F].f == m.F)=true):=λhi=>by
  have:=aIb (p:=λt:Sn=>decide (t.f=m.F)) (w:=hi)
  exact beq_iff_eq.2 (aGw this)
 clear ha hB;generalize iJ l m.F=R at *;go_in
 go_wp2_with fail;go_loopw [8] (λi wr=>∃k:Nat,k<=R/\i= .int .i64 k/\aI w wr) (λi _=>l.length - (intOf i).toNat)
 case atStart=>exact BM
 case round=>
  obtain⟨k,hk,rfl,hbw⟩:=hrel;have HB:=Hq hbw;have hkl:k < l.length:=Aaa
  have aDZ:(k:Int) < (l.length:Int):=Aaa
  obtain⟨g,off,b,cc,e0,hg,q0,q1,q2,_⟩:=iW.below HA hbw k hkl;have HCk:=Hq (HC l[k].f l[k].l b l[k].ids.length cc);have HNk:=Hq (HN k hkl)
  have HYk:Hid (k=R->(l[k].f == m.F)=true):=λe=>by
   subst e
   exact HY hkl
  subst e0;clear hbw HC HN HY;generalize l[k]=sk at *;obtain⟨sf,sl,si⟩:=sk;dsimp only at q0 q1 q2 HCk HNk HYk;by_cases hR:k=R
  .have hq:=ah HYk hR;subst hR;open as8 in exact Wj
  .have hq:=ah HNk Aaa;open as7 in exact Wj
abbrev kC (w:World) (B:Nat) (m:Mg):Prop:=w.heap[B]?=some (.cells (bX m.K m.F m.T m.I m.L m.k m.N) 98 (0,0))
theorem UL {w:World} {j sb mb:Nat} {low:Int} (h:kC w j mm) (hs:lI w sb mb low):j≠sb:=λe=>by
 unfold kC at h;unfold lI at hs;rw [e,hs] at h;simp at h
theorem YT {w:World} {j wb:Nat} {n:Nd} {A:bV} {v:Value} (h:kC w j mm) (hs:w.heap[wb]?=some (.cells (Xx n A v) 192 (0,0))):j≠wb:=λe=>by
 unfold kC at h;rw [e,hs] at h;simp at h
theorem QC {w:World} {j g i q cc:Nat} {b:Option Addr} (h:kC w j mm) (hc:w.cell? ⟨g,i*3+2,none⟩=some (.slice b q cc)):j≠g:=λe=>by
 subst e;have h1:=aGu w j (i*3+2) _ _ (0,0) h;rw [hc] at h1;rcases i with _|_|i
 .simp at h1
 .simp at h1
 .rw [aGU Aag] at h1;cases h1
theorem ac6 (s:Sn) (low:Int):max s.l low=fK s low:=by
 unfold fK;split<;>omega
theorem ru.lift {w0 w w':World} {wb sb mb k:Nat} {n:Nd} {A:bV} {G:aR} {c:Nat->Nat} {v:Value} {L:List Mg} {low aAY:Int} {l l':List Int} (h:ru w0 w wb sb mb k n A G c v L low l) (hb:lI w' sb mb aAY) (hs:fJ w' mb k l') (hk:aC [sb,mb] w w'):ru w0 w' wb sb mb k n A G c v L aAY l':=
 ⟨h.wk.kc (KC.keeps hk (λx hx=>by
  have h2:x=sb\/x=mb:=Aah
  rcases h2 with rfl|rfl
  .exact h.cs
  .exact h.cm)) Aaa,hb,hs,h.cs,h.cm⟩
theorem ZY (w0 w:World) (wb:Nat) (n:Nd) (A:bV) (G:aR) (c:Nat->Nat) (v:Value) (L:List Mg) (m:Mg) (E:Nat->Addr) (i:Nat) (s0:Sn) (TT:Nd×Bool) (hi:i < n.seen.length) (hie:iJ n.seen m.F=i) (hs0:n.seen[i]=s0) (hTT:takeN n m=TT) (hsl:n.seen.length<=1000) (hsn:wu s0=true) (hz:eG n 1048576) (hk:m.k.size<=1048576) (hL1:m.L<=1000000000) (hI0:0<=m.I) (hI1:m.I<=1000000000) (h:WK w0 w wb n A G c v L) (he:iK w0 E):
 Calls prog 219 #[.pointer (some ⟨wb,0,none⟩),oz m] w λe w'=>e= .returned (.bool TT.2)/\(∃A' G' c',WK w0 w' wb TT.1 A' G' c' v L)/\∀j mm,kC w j mm->kC w' j mm:=by
 have HIX:=Hq (λB w1 (ha:iW w1 A.s n.seen) hB=>afB A.s A.cs n.seen B m w1 hsl ha hB (by rw [hie];exact hi));rw [hie] at HIX;have HTH:Hid (sV s0 m.L m.I=true->_):=λh=>hTT.symm.trans (Ld hi hie hs0 h)
 have Tg:Hid (sV s0 m.L m.I=false->mG n s0 m=true->_):=λh hg=>hTT.symm.trans (GZ hi hie hs0 h hg)
 have HTN:Hid (sV s0 m.L m.I=false->mG n s0 m=false->_):=λh hg=>hTT.symm.trans (RY hi hie hs0 h hg)
 have DC:=Hq (uh (Mx hsn hL1));have aeG:=Hq (uh hsn);have HMX:=Hq (ac6 s0 m.L);have HGS:=Hq (λw sb mb k A G c low l hkk hnd hf h=>Sc w0 w wb sb mb k n A G c v L m low l E hz hk hI0 hI1 hkk hnd hf h he);have HGF:=Hq (λw sb mb k A G c low l hnd hf h=>Sb w0 w wb sb mb k n A G c v L m low l hnd hf h);have LD:=Hq hs0;clear hz hk he hsn hL1 hTT hie hs0;have HW:=Hq h;obtain⟨mK,mF,mT,mI,mL,mk,mN⟩:=m;dsimp only at *;open avQ in exact aaS
theorem aeg (w0 w:World) (wb:Nat) (n:Nd) (A:bV) (G:aR) (c:Nat->Nat) (v:Value) (L:List Mg) (m:Mg) (E:Nat->Addr) (hz:eG n 1048576) (hok:eH n=true) (hF:eD n m.F=true) (hk:m.k.size<=1048576) (hL1:m.L<=1000000000) (hI0:0<=m.I) (hI1:m.I<=1000000000) (h:WK w0 w wb n A G c v L) (he:iK w0 E):
 Calls prog 219 #[.pointer (some ⟨wb,0,none⟩),oz m] w λe w'=>e= .returned (.bool (takeN n m).2)/\(∃A' G' c',WK w0 w' wb (takeN n m).1 A' G' c' v L)/\∀j mm,kC w j mm->kC w' j mm:=by
 obtain⟨hi,hif⟩:=Gq hok hF;have hsn:=AV hok _ (aGz hi)
 have hsl:n.seen.length<=1000:=by
  exact azY
 exact ZY w0 w wb n A G c v L m E _ _ _ hi rfl rfl rfl hsl hsn hz hk hL1 hI0 hI1 h he
end Go.Proofs.YtohmklmkjmlpjaaGreatDoor
