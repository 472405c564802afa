/- Parts. -/
import Derived.Test.YtacgbldlonoaaaaGreatDoorRw34
namespace Go.Proofs.YtacgbldlonoaaaaGreatDoor
open Go.Proofs.Tryz
set_option maxHeartbeats 8000000
set_option maxRecDepth 100000
open Go.RowKit Go.Maps
open Mth
variable (w0 w:World) (wb sb mb k:Nat) (n:Nd) (A:bC) (G:bJ) (c:Nat->Nat) (v:Value) (L:List Mg) (m:Mg) (low:Int) (l:List Int) {w':World} {mm:Mg}
structure rz (w0 w:World) (wb sb mb k:Nat) (n:Nd) (A:bC) (G:bJ) (c:Nat->Nat) (v:Value) (L:List Mg) (low:Int) (l:List Int):Prop where
 wk:WK w0 w wb n A G c v L
 bk:lG w sb mb low
 si:gB w mb k l
 cs:c sb=9
 cm:c mb=9
theorem rz.step {w0 w:World} {wb sb mb k:Nat} {n:Nd} {A:bC} {G:bJ} {c:Nat->Nat} {v:Value} {L:List Mg} {low:Int} {l:List Int} (h:rz w0 w wb sb mb k n A G c v L low l) (hb:aY w w'):rz w0 w' wb sb mb k n A G c v L low l:=
 ⟨h.wk.step hb,ay h.bk hb,h.si.kept (hb.block mb h.si.lt),h.cs,h.cm⟩
theorem rz.ne {w0 w:World} {wb sb mb k:Nat} {n:Nd} {A:bC} {G:bJ} {c:Nat->Nat} {v:Value} {L:List Mg} {low:Int} {l:List Int} (h:rz w0 w wb sb mb k n A G c v L low l):sb≠wb/\mb≠wb:=by
 have h8:=h.wk.cw;refine⟨λe=>?_,λe=>?_⟩
 .have:=h.cs;rw [e,h8] at this;cases this
 .have:=h.cm;rw [e,h8] at this;cases this
theorem rz.settled {w0 w x:World} {wb sb mb k:Nat} {n n':Nd} {A A':bC} {G G':bJ} {c c':Nat->Nat} {v:Value} {L:List Mg} {low:Int} {l:List Int} (h:rz w0 w wb sb mb k n A G c v L low l) (hb:aY w x) (hw:WK w0 w' wb n' A' G' c' v L) (hk:∀k o,k≠wb->x.heap[k]?=some o->w'.heap[k]?=some o) (hc:∀k,k < w.heap.size->c' k=c k):rz w0 w' wb sb mb k n' A' G' c' v L low l:=by
 have h1:=h.step hb;refine⟨hw,hk sb _ h.ne.1 h1.bk,?_,(hc sb (aA h.bk)).trans h.cs,(hc mb h.si.lt).trans h.cm⟩;obtain⟨D,⟨es,clock,hbk,rest⟩,ha⟩:=h1.si;exact⟨D,⟨es,clock,hk mb _ h.ne.2 hbk,rest⟩,ha⟩
theorem rz.put {w0 w:World} {wb sb mb k:Nat} {n:Nd} {A:bC} {G:bJ} {c:Nat->Nat} {v:Value} {L:List Mg} {low x:Int} {l:List Int} (h:rz w0 w wb sb mb k n A G c v L low l) (hs:gB w' mb (k+1) (x::l)) (hk:Keeps mb w w'):rz w0 w' wb sb mb (k+1) n A G c v L low (x::l):=by
 have hne:=h.si.ne h.bk;have hkc:KC c 9 w w':=⟨hk.os,hk.tape,hk.output,hk.size,λy hy hc=>hk.block y hy (λe=>hc (by rw [e];exact h.cm))⟩;exact⟨h.wk.kc hkc Aaa,by unfold lG;rw [hk.block sb (aA h.bk) hne];exact h.bk,hs,h.cs,h.cm⟩
theorem aBR {w:World} {mb k:Nat} {l:List Int} (h:gB w mb k l) (hl:l.Nodup) (d:Nat) (os:Array Obj) (ty:TypeId):(Builtin.len_ #[259] ty #[.map (some mb)]).run prog (Sort.grow (redrawn w d) os)= .ok (.int .i64 l.length) (Sort.grow (redrawn w d) os):=
 (h.kept ((below_regrown w d os).block mb h.lt)).len hl ty
theorem Rj (hnd:l.Nodup) (hf:l.length=40) (h:rz w0 w wb sb mb k n A G c v L low l):Calls prog 198 #[.pointer (some ⟨wb,0,none⟩),qg m,.pointer (some ⟨sb,0,none⟩)] w λe w'=>e= .returned (.bool false)/\aY w w':=by
 have hq:((l.length:Int) == 40)=true:=Aaf
 have HW:=Hq h;obtain⟨mK,mF,mT,mI,mL,mk,mN⟩:=m;skip
 open anB in exact awu
theorem Rk (E:Nat->Addr) (hz:eY n 1048576) (hk:m.k.size<=1048576) (hi0:0<=m.I) (hi1:m.I<=1000000000) (hkk:k < 1000000) (hnd:l.Nodup) (hf:l.length < 40) (h:rz w0 w wb sb mb k n A G c v L low l) (he:iH w0 E):Calls prog 198 #[.pointer (some ⟨wb,0,none⟩),qg m,.pointer (some ⟨sb,0,none⟩)] w λe w'=>e= .returned (.bool (dJ n.pu m.k 0 1 0 m.N).2)/\(∃A' G' c',rz w0 w' wb sb mb (k+1) (if (dJ n.pu m.k 0 1 0 m.N).2=true then setPu n (dJ n.pu m.k 0 1 0 m.N).1 else n) A' G' c' v L low (if (dJ n.pu m.k 0 1 0 m.N).2=true then m.I::l else l))/\∀j o,j≠wb->j≠mb->w.heap[j]?=some o->w'.heap[j]?=some o:=by
 have hq:((l.length:Int) == 40)=false:=Aaf
 have HGN:=Hq (λw1 (hb:aY w w1)=>abK A.p A.cp n.pu m.k m.N E w1 hz.p hz.pk hk (GR.At.below h.wk.no.p.at hb) (he.below (h.wk.keep.trans (hb.mono h.wk.keep.size))));unfold ku at HGN;clear hz hk he;have HW:=Hq h;obtain⟨mK,mF,mT,mI,mL,mk,mN⟩:=m;dsimp only at *;generalize dJ n.pu mk 0 1 0 mN=r at *;open anA in exact awu
theorem WK.seenPut {w0 w:World} {wb:Nat} {n:Nd} {A:bC} {G:bJ} {c:Nat->Nat} {v:Value} {L:List Mg} (h:WK w0 w wb n A G c v L) (k:Nat) (hk:k < n.seen.length) (s:Sn) (b:Option Addr) (cc gi:Nat) (hi:GR.W aS 1 w b gi s.ids) (h5:∀x∈fp gi s.ids,c x=5/\x∉vR G.i n.seen):
 WK w0 (GR.setW w G.s (k*3) [.int .i64 s.f,.int .i64 s.l,.slice b s.ids.length cc]) wb (dA n (n.seen.set k s)) A ⟨G.k,G.p,G.o,G.s,G.r,lS G.i k gi⟩ c v L:=by
 have c4:c G.s=4:=h.no.c4 G.s (dK Aaa);have hkc:KC c 4 w (GR.setW w G.s (k*3) [.int .i64 s.f,.int .i64 s.l,.slice b s.ids.length cc]):=KC.setW _ c4;have hN:=h.no;have hlen:(n.seen.set k s).length=n.seen.length:=List.length_set ..
 have hci:∀x∈vR (lS G.i k gi) (n.seen.set k s),c x=5:=λx hx=>by
  obtain⟨i,hi',rfl,hpos⟩:=uO hx
  unfold lS
  by_cases e:i=k
  .subst e;rw [if_pos rfl];rw [List.getElem_set_self] at hpos;exact(h5 gi (dK hpos)).1
  .rw [if_neg e];rw [List.getElem_set_ne Aaa] at hpos;exact hN.ci _ (jH Aaa _ (dK hpos))
 refine⟨hkc.below h.keep hN.lo Aaa h.keep.size,?_,⟨hkc.w hN.k hN.ck Aaa,hkc.w hN.p hN.cp Aaa,hkc.own hN.o hN.co Aaa,?_,hkc.own hN.r hN.cr Aaa,hN.lo,hN.ck,hN.cp,hN.co,?_,hci,hN.cr,?_⟩,hkc.own h.m h.cm Aaa,h.cm,h.cw⟩
 .have hb:=hkc.obj h.blk (by rw [h.cw];omega)
  have e:RI (dA n (n.seen.set k s)) A v=RI n A v:=by
   unfold RI dA;rw [hlen]
  rw [e];exact hb
 .exact hN.s.store k hk s b cc gi hi (λx hx e=>by have:=hN.ci x hx;rw [e,c4] at this;cases this) (λx hx e=>by have:=(h5 x hx).1;rw [e,c4] at this;cases this)
 .intro x hx;have h1:x=G.s:=(gV hx).1;rw [h1];exact c4
 .show(vR (lS G.i k gi) (n.seen.set k s)).Nodup
  have hni:=(mq G.i n.seen).1 hN.ni;rw [mq];intro i j hi' hj' hij h1 h2;have hil:i < n.seen.length:=Aaa
  have hjl:j < n.seen.length:=Aaa
  unfold lS;by_cases ei:i=k
  .subst ei;rw [if_pos rfl,if_neg Aaa];rw [List.getElem_set_self] at h1;rw [List.getElem_set_ne Aaa] at h2;exact λe=>(h5 gi (dK h1)).2 (e▸jH hjl _ (dK h2))
  .rw [if_neg ei];rw [List.getElem_set_ne Aaa] at h1;by_cases ej:j=k
   .subst ej;rw [if_pos rfl];rw [List.getElem_set_self] at h2;exact λe=>(h5 gi (dK h2)).2 (e▸jH hil _ (dK h1))
   .rw [if_neg ej];rw [List.getElem_set_ne Aaa] at h2;exact hni i j hil hjl hij h1 h2
theorem ajO (f lo:Int) (b:Option Addr) (q cc B:Nat) (m:Mg) (w:World) (hB:w.heap[B]?=some (.cells (cK m.K m.F m.T m.I m.L m.k m.N) 32 (0,0))):
 Calls prog 194 #[.agg #[.int .i64 f,.int .i64 lo,.slice b q cc],.pointer (some ⟨B,0,none⟩)] w (fF w (.bool (f == m.F))):=by
 have hBl:=aA hB;obtain⟨⟨p0,p1,p2,p3,p4,p5,p6⟩,_⟩:=dQ hB;clear hB;obtain⟨mK,mF,mT,mI,mL,mk,mN⟩:=m;dsimp only at *;go_in
 exact adR
theorem aej (a:Option Addr) (cap:Nat) (l:List Sn) (B:Nat) (m:Mg) (w:World) (hl:l.length<=1000) (ha:mW w a l) (hB:w.heap[B]?=some (.cells (cK m.K m.F m.T m.I m.L m.k m.N) 32 (0,0))) (hf:iG l m.F < l.length):
 Calls prog 193 #[.slice a l.length cap,.func (.func 194) #[] #[.pointer (some ⟨B,0,none⟩)]] w (fF w (.int .i64 (iG l m.F:Nat))):=by
 have HC:=Hq (λf lo b q cc w1 (hb:aY w w1)=>ajO f lo b q cc B m w1 (ay hB hb));have HA:=Hq ha
 have HN:Hid (∀i (hi:i < l.length),i < iG l m.F->(l[i].f == m.F)=false):=λi hi h=>by
  have:=List.not_of_lt_findIdx h
  simpa using this
 have HY:Hid (∀(hi:iG l m.F < l.length),(l[iG l m.F].f == m.F)=true):=λhi=>by
  have:=List.findIdx_getElem (p:=λt:Sn=>decide (t.f=m.F)) (w:=hi)
  exact beq_iff_eq.2 (of_decide_eq_true this)
 clear ha hB;generalize iG l m.F=R at *;go_in
 go_wp2_with fail;go_loopw [8] (λi wr=>∃k:Nat,k<=R/\i= .int .i64 k/\aY w wr) (λi _=>l.length - (intOf i).toNat)
 case atStart=>exact OI
 case round=>
  obtain⟨k,hk,rfl,hbw⟩:=hrel;have HB:=Hq hbw;have hkl:k < l.length:=Aaa
  have aBk:(k:Int) < (l.length:Int):=Aaa
  obtain⟨g,off,b,cc,e0,hg,q0,q1,q2,_⟩:=mW.below HA hbw k hkl;have HCk:=Hq (HC l[k].f l[k].l b l[k].ids.length cc);have HNk:=Hq (HN k hkl)
  have HYk:Hid (k=R->(l[k].f == m.F)=true):=λe=>by
   subst e
   exact HY hkl
  subst e0;clear hbw HC HN HY;generalize l[k]=sk at *;obtain⟨sf,sl,si⟩:=sk;dsimp only at q0 q1 q2 HCk HNk HYk;by_cases hR:k=R
  .have hq:=ah HYk hR;subst hR;open aqW in exact Vd
  .have hq:=ah HNk Aaa;open aqV in exact Vd
abbrev gQ (w:World) (B:Nat) (m:Mg):Prop:=w.heap[B]?=some (.cells (cK m.K m.F m.T m.I m.L m.k m.N) 32 (0,0))
theorem TU {w:World} {j sb mb:Nat} {low:Int} (h:gQ w j mm) (hs:lG w sb mb low):j≠sb:=λe=>by
 unfold gQ at h;unfold lG at hs;rw [e,hs] at h;simp at h
theorem XJ {w:World} {j wb:Nat} {n:Nd} {A:bC} {v:Value} (h:gQ w j mm) (hs:w.heap[wb]?=some (.cells (RI n A v) 74 (0,0))):j≠wb:=λe=>by
 unfold gQ at h;rw [e,hs] at h;simp at h
theorem rG {w:World} {j g i q cc:Nat} {b:Option Addr} (h:gQ w j mm) (hc:w.cell? ⟨g,i*3+2,none⟩=some (.slice b q cc)):j≠g:=λe=>by
 subst e;have h1:=cell_of_row w j (i*3+2) _ _ (0,0) h;rw [hc] at h1;rcases i with _|_|i
 .simp at h1
 .simp at h1
 .rw [Array.getElem?_eq_none Aaf] at h1;cases h1
theorem ab7 (s:Sn) (low:Int):max s.l low=eZ s low:=by
 unfold eZ;split<;>omega
theorem rz.lift {w0 w w':World} {wb sb mb k:Nat} {n:Nd} {A:bC} {G:bJ} {c:Nat->Nat} {v:Value} {L:List Mg} {low ays:Int} {l l':List Int} (h:rz w0 w wb sb mb k n A G c v L low l) (hb:lG w' sb mb ays) (hs:gB w' mb k l') (hk:aC [sb,mb] w w'):rz w0 w' wb sb mb k n A G c v L ays l':=
 ⟨h.wk.kc (KC.keeps hk (λx hx=>by
  have h2:x=sb\/x=mb:=Aag
  rcases h2 with rfl|rfl
  .exact h.cs
  .exact h.cm)) Aaa,hb,hs,h.cs,h.cm⟩
theorem YJ (w0 w:World) (wb:Nat) (n:Nd) (A:bC) (G:bJ) (c:Nat->Nat) (v:Value) (L:List Mg) (m:Mg) (E:Nat->Addr) (i:Nat) (s0:Sn) (TT:Nd×Bool) (hi:i < n.seen.length) (hie:iG n.seen m.F=i) (hs0:n.seen[i]=s0) (hTT:takeN n m=TT) (hsl:n.seen.length<=1000) (hsn:vO s0=true) (hz:eY n 1048576) (hk:m.k.size<=1048576) (hL1:m.L<=1000000000) (hI0:0<=m.I) (hI1:m.I<=1000000000) (h:WK w0 w wb n A G c v L) (he:iH w0 E):
 Calls prog 170 #[.pointer (some ⟨wb,0,none⟩),qg m] w λe w'=>e= .returned (.bool TT.2)/\(∃A' G' c',WK w0 w' wb TT.1 A' G' c' v L)/\∀j mm,gQ w j mm->gQ w' j mm:=by
 have HIX:=Hq (λB w1 (ha:mW w1 A.s n.seen) hB=>aej A.s A.cs n.seen B m w1 hsl ha hB (by rw [hie];exact hi));rw [hie] at HIX;have HTH:Hid (sQ s0 m.L m.I=true->_):=λh=>hTT.symm.trans (Kv hi hie hs0 h)
 have Sc:Hid (sQ s0 m.L m.I=false->mY n s0 m=true->_):=λh hg=>hTT.symm.trans (Gw hi hie hs0 h hg)
 have HTN:Hid (sQ s0 m.L m.I=false->mY n s0 m=false->_):=λh hg=>hTT.symm.trans (Q8 hi hie hs0 h hg)
 have Dx:=Hq (tQ (LH hsn hL1));have adz:=Hq (tQ hsn);have HMX:=Hq (ab7 s0 m.L);have HGS:=Hq (λw sb mb k A G c low l hkk hnd hf h=>Rk w0 w wb sb mb k n A G c v L m low l E hz hk hI0 hI1 hkk hnd hf h he);have HGF:=Hq (λw sb mb k A G c low l hnd hf h=>Rj w0 w wb sb mb k n A G c v L m low l hnd hf h);have HS0:=Hq hs0;clear hz hk he hsn hL1 hTT hie hs0;have HW:=Hq h;obtain⟨mK,mF,mT,mI,mL,mk,mN⟩:=m;dsimp only at *;open atL in exact aai
theorem ac7 (w0 w:World) (wb:Nat) (n:Nd) (A:bC) (G:bJ) (c:Nat->Nat) (v:Value) (L:List Mg) (m:Mg) (E:Nat->Addr) (hz:eY n 1048576) (hok:dY n=true) (hF:dV n m.F=true) (hk:m.k.size<=1048576) (hL1:m.L<=1000000000) (hI0:0<=m.I) (hI1:m.I<=1000000000) (h:WK w0 w wb n A G c v L) (he:iH w0 E):
 Calls prog 170 #[.pointer (some ⟨wb,0,none⟩),qg m] w λe w'=>e= .returned (.bool (takeN n m).2)/\(∃A' G' c',WK w0 w' wb (takeN n m).1 A' G' c' v L)/\∀j mm,gQ w j mm->gQ w' j mm:=by
 obtain⟨hi,hif⟩:=Gc hok hF;have hsn:=Ar hok _ (List.getElem_mem hi)
 have hsl:n.seen.length<=1000:=by
  exact axy
 exact YJ w0 w wb n A G c v L m E _ _ _ hi rfl rfl rfl hsl hsn hz hk hL1 hI0 hI1 h he
end Go.Proofs.YtacgbldlonoaaaaGreatDoor
