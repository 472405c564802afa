/- Parts. -/
import Derived.Test.YtbolgdleijjgfaaGreatDoorRs39
namespace Go.Proofs.YtbolgdleijjgfaaGreatDoor
open Go.Proofs.Tryz
set_option maxHeartbeats 8000000
set_option maxRecDepth 100000
open Go.RowKit Go.Maps
open Mth
variable (w0 w:World) (wb:Nat) (n:Nd) (A:bq) (G:aK) (c:Nat->Nat) (v:Value) (L:List Mg) {k mb i sb j g:Nat} {l R:List jC} {low:Int} {w':World} {mm:Mg} {rest:List Value}
structure rz (w0 w:World) (wb sb mb k:Nat) (n:Nd) (A:bq) (G:aK) (c:Nat->Nat) (v:Value) (L:List Mg) (low:Int) (l:List Int):Prop where
 wk:WK w0 w wb n A G c v L
 bk:kX w sb mb low
 si:fF w mb k l
 cs:c sb=9
 cm:c mb=9
theorem rz.step {w0 w:World} {wb:Nat} {n:Nd} {A:bq} {G:aK} {c:Nat->Nat} {v:Value} {L:List Mg} {l:List Int} (h:rz w0 w wb sb mb k n A G c v L low l) (hb:aH w w'):rz w0 w' wb sb mb k n A G c v L low l:=
 ⟨h.wk.step hb,aj h.bk hb,h.si.kept (hb.block mb h.si.lt),h.cs,h.cm⟩
theorem rz.ne {w0 w:World} {wb:Nat} {n:Nd} {A:bq} {G:aK} {c:Nat->Nat} {v:Value} {L:List Mg} {l:List Int} (h:rz w0 w wb sb mb k n A G c v L low l):sb≠wb/\mb≠wb:=by
 have h8:=h.wk.cw;refine⟨λe=>?_,λe=>?_⟩
 .have:=h.cs;rw [e,h8] at this;cases this
 .have:=h.cm;rw [e,h8] at this;cases this
theorem rz.settled {w0 w x:World} {wb:Nat} {n n':Nd} {A A':bq} {G G':aK} {c c':Nat->Nat} {v:Value} {L:List Mg} {l:List Int} (h:rz w0 w wb sb mb k n A G c v L low l) (hb:aH w x) (hw:WK w0 w' wb n' A' G' c' v L) (hk:∀k o,k≠wb->x.heap[k]?=some o->w'.heap[k]?=some o) (hc:∀k,k < w.heap.size->c' k=c k):rz w0 w' wb sb mb k n' A' G' c' v L low l:=by
 have h1:=h.step hb;refine⟨hw,hk sb _ h.ne.1 h1.bk,?_,(hc sb (ay h.bk)).trans h.cs,(hc mb h.si.lt).trans h.cm⟩;obtain⟨D,⟨es,clock,hbk,rest⟩,ha⟩:=h1.si;exact⟨D,⟨es,clock,hk mb _ h.ne.2 hbk,rest⟩,ha⟩
theorem rz.put {w0 w:World} {wb:Nat} {n:Nd} {A:bq} {G:aK} {c:Nat->Nat} {v:Value} {L:List Mg} {x:Int} {l:List Int} (h:rz w0 w wb sb mb k n A G c v L low l) (hs:fF w' mb (k+1) (x::l)) (hk:Keeps mb w w'):rz w0 w' wb sb mb (k+1) n A G c v L low (x::l):=by
 have hne:=h.si.ne h.bk;have hkc:KC c 9 w w':=⟨hk.os,hk.tape,hk.output,hk.size,λy hy hc=>hk.block y hy (λe=>hc (by rw [e];exact h.cm))⟩;exact⟨h.wk.kc hkc Aaa,by unfold kX;rw [hk.block sb (ay h.bk) hne];exact h.bk,hs,h.cs,h.cm⟩
theorem aCT {w:World} {l:List Int} (h:fF w mb k l) (hl:l.Nodup) (d:Nat) (os:Array Obj) (ty:TypeId):(Builtin.len_ #[304] ty #[.map (some mb)]).run prog (Sort.grow (redrawn w d) os)= .ok (.int .i64 l.length) (Sort.grow (redrawn w d) os):=
 (h.kept ((aFe w d os).block mb h.lt)).len hl ty
theorem RV (w0 w:World) (wb sb mb k:Nat) (n:Nd) (A:bq) (G:aK) (c:Nat->Nat) (v:Value) (L:List Mg) (m:Mg) (low:Int) (l:List Int) (hnd:l.Nodup) (hf:l.length=40) (h:rz w0 w wb sb mb k n A G c v L low l):Calls prog 251 #[.pointer (some ⟨wb,0,none⟩),nZ m,.pointer (some ⟨sb,0,none⟩)] w λe w'=>e= .returned (.bool false)/\aH w w':=by
 have hq:((l.length:Int) == 40)=true:=Aah
 have HW:=Hq h;obtain⟨mK,mF,mT,mI,mL,mk,mN⟩:=m;skip
 open aoy in exact awH
theorem RY (w0 w:World) (wb sb mb k:Nat) (n:Nd) (A:bq) (G:aK) (c:Nat->Nat) (v:Value) (L:List Mg) (m:Mg) (low:Int) (l:List Int) (E:Nat->Addr) (hz:eF n 1048576) (hk:m.k.size<=1048576) (hi0:0<=m.I) (hi1:m.I<=1000000000) (hkk:k < 1000000) (hnd:l.Nodup) (hf:l.length < 40) (h:rz w0 w wb sb mb k n A G c v L low l) (he:gY w0 E):Calls prog 251 #[.pointer (some ⟨wb,0,none⟩),nZ m,.pointer (some ⟨sb,0,none⟩)] w λe w'=>e= .returned (.bool (dw n.pu m.k 0 1 0 m.N).2)/\(∃A' G' c',rz w0 w' wb sb mb (k+1) (if (dw n.pu m.k 0 1 0 m.N).2=true then setPu n (dw n.pu m.k 0 1 0 m.N).1 else n) A' G' c' v L low (if (dw n.pu m.k 0 1 0 m.N).2=true then m.I::l else l))/\∀j o,j≠wb->j≠mb->w.heap[j]?=some o->w'.heap[j]?=some o:=by
 have hq:((l.length:Int) == 40)=false:=Aah
 have HGN:=Hq (λw1 (hb:aH w w1)=>aci A.p A.cp n.pu m.k m.N E w1 hz.p hz.pk hk (GR.At.below h.wk.no.p.at hb) (he.below (h.wk.keep.trans (hb.mono h.wk.keep.size))));unfold jS at HGN;clear hz hk he;have HW:=Hq h;obtain⟨mK,mF,mT,mI,mL,mk,mN⟩:=m;dsimp only at *;generalize dw n.pu mk 0 1 0 mN=r at *;open aox in exact awH
theorem WK.seenPut {w0 w:World} {wb:Nat} {n:Nd} {A:bq} {G:aK} {c:Nat->Nat} {v:Value} {L:List Mg} (h:WK w0 w wb n A G c v L) (k:Nat) (hk:k < n.seen.length) (s:Sn) (b:Option Addr) (cc gi:Nat) (hi:GR.W bf 1 w b gi s.ids) (h5:∀x∈fp gi s.ids,c x=5/\x∉mX G.i n.seen):
 WK w0 (GR.setW w G.s (k*3) [.int .i64 s.f,.int .i64 s.l,.slice b s.ids.length cc]) wb (dU n (n.seen.set k s)) A ⟨G.k,G.p,G.o,G.s,G.r,vF G.i k gi⟩ c v L:=by
 have c4:c G.s=4:=h.no.c4 G.s (dB Aaa);have hkc:KC c 4 w (GR.setW w G.s (k*3) [.int .i64 s.f,.int .i64 s.l,.slice b s.ids.length cc]):=KC.setW _ c4;have hN:=h.no;have hlen:(n.seen.set k s).length=n.seen.length:=aF1 ..
 have hci:∀x∈mX (vF G.i k gi) (n.seen.set k s),c x=5:=λx hx=>by
  obtain⟨i,hi',rfl,hpos⟩:=rY hx
  unfold vF
  by_cases e:i=k
  .subst e;rw [aE7 rfl];rw [aFi] at hpos;exact(h5 gi (dB hpos)).1
  .rw [aEX e];rw [aFj Aaa] at hpos;exact hN.ci _ (jw Aaa _ (dB hpos))
 refine⟨hkc.below h.keep hN.lo Aaa h.keep.size,?_,⟨hkc.w hN.k hN.ck Aaa,hkc.w hN.p hN.cp Aaa,hkc.own hN.o hN.co Aaa,?_,hkc.own hN.r hN.cr Aaa,hN.lo,hN.ck,hN.cp,hN.co,?_,hci,hN.cr,?_⟩,hkc.own h.m h.cm Aaa,h.cm,h.cw⟩
 .have hb:=hkc.obj h.blk (by rw [h.cw];omega)
  have e:Xq (dU n (n.seen.set k s)) A v=Xq n A v:=by
   unfold Xq dU;rw [hlen]
  rw [e];exact hb
 .exact hN.s.store k hk s b cc gi hi (λx hx e=>by have:=hN.ci x hx;rw [e,c4] at this;cases this) (λx hx e=>by have:=(h5 x hx).1;rw [e,c4] at this;cases this)
 .intro x hx;have h1:x=G.s:=(cu hx).1;rw [h1];exact c4
 .show(mX (vF G.i k gi) (n.seen.set k s)).Nodup
  have hni:=(qh G.i n.seen).1 hN.ni;rw [qh];intro i j hi' hj' hij h1 h2;have hil:i < n.seen.length:=Aaa
  have hjl:j < n.seen.length:=Aaa
  unfold vF;by_cases ei:i=k
  .subst ei;rw [aE7 rfl,aEX Aaa];rw [aFi] at h1;rw [aFj Aaa] at h2;exact λe=>(h5 gi (dB h1)).2 (e▸jw hjl _ (dB h2))
  .rw [aEX ei];rw [aFj Aaa] at h1;by_cases ej:j=k
   .subst ej;rw [aE7 rfl];rw [aFi] at h2;exact λe=>(h5 gi (dB h2)).2 (e▸jw hil _ (dB h1))
   .rw [aEX ej];rw [aFj Aaa] at h2;exact hni i j hil hjl hij h1 h2
theorem ald (f lo:Int) (b:Option Addr) (q cc B:Nat) (m:Mg) (w:World) (hB:w.heap[B]?=some (.cells (bQ m.K m.F m.T m.I m.L m.k m.N) 70 (0,0))):
 Calls prog 247 #[.agg #[.int .i64 f,.int .i64 lo,.slice b q cc],.pointer (some ⟨B,0,none⟩)] w (dM w (.bool (f == m.F))):=by
 have hBl:=ay hB;obtain⟨⟨p0,p1,p2,p3,p4,p5,p6⟩,_⟩:=eD hB;clear hB;obtain⟨mK,mF,mT,mI,mL,mk,mN⟩:=m;dsimp only at *;go_in
 exact VZ
theorem afo (a:Option Addr) (cap:Nat) (l:List Sn) (B:Nat) (m:Mg) (w:World) (hl:l.length<=1000) (ha:gZ w a l) (hB:w.heap[B]?=some (.cells (bQ m.K m.F m.T m.I m.L m.k m.N) 70 (0,0))) (hf:iN l m.F < l.length):
 Calls prog 246 #[.slice a l.length cap,.func (.func 247) #[] #[.pointer (some ⟨B,0,none⟩)]] w (dM w (.int .i64 (iN l m.F:Nat))):=by
 have HC:=Hq (λf lo b q cc w1 (hb:aH w w1)=>ald f lo b q cc B m w1 (aj hB hb));have HA:=Hq ha
 have HN:Hid (∀i (hi:i < l.length),i < iN l m.F->(l[i].f == m.F)=false):=λi hi h=>by
  have:=List.not_of_lt_findIdx h
  simpa using this
 have HY:Hid (∀(hi:iN l m.F < l.length),(l[iN l m.F].f == m.F)=true):=λhi=>by
  have:=aGL (p:=λt:Sn=>decide (t.f=m.F)) (w:=hi)
  exact beq_iff_eq.2 (aE5 this)
 clear ha hB;generalize iN l m.F=R at *;go_in
 go_wp2_with fail;go_loopw [8] (λi wr=>∃k:Nat,k<=R/\i= .int .i64 k/\aH w wr) (λi _=>l.length - (intOf i).toNat)
 case atStart=>exact BP
 case round=>
  obtain⟨k,hk,rfl,hbw⟩:=hrel;have HB:=Hq hbw;have hkl:k < l.length:=Aaa
  have aCn:(k:Int) < (l.length:Int):=Aaa
  obtain⟨g,off,b,cc,e0,hg,q0,q1,q2,_⟩:=gZ.below HA hbw k hkl;have HCk:=Hq (HC l[k].f l[k].l b l[k].ids.length cc);have HNk:=Hq (HN k hkl)
  have HYk:Hid (k=R->(l[k].f == m.F)=true):=λe=>by
   subst e
   exact HY hkl
  subst e0;clear hbw HC HN HY;generalize l[k]=sk at *;obtain⟨sf,sl,si⟩:=sk;dsimp only at q0 q1 q2 HCk HNk HYk;by_cases hR:k=R
  .have hq:=ah HYk hR;subst hR;open arL in exact VJ
  .have hq:=ah HNk Aaa;open arK in exact VJ
abbrev jQ (w:World) (B:Nat) (m:Mg):Prop:=w.heap[B]?=some (.cells (bQ m.K m.F m.T m.I m.L m.k m.N) 70 (0,0))
theorem Ur {w:World} (h:jQ w j mm) (hs:kX w sb mb low):j≠sb:=λe=>by
 unfold jQ at h;unfold kX at hs;rw [e,hs] at h;simp at h
theorem YQ {w:World} {wb:Nat} {n:Nd} {A:bq} {v:Value} (h:jQ w j mm) (hs:w.heap[wb]?=some (.cells (Xq n A v) 215 (0,0))):j≠wb:=λe=>by
 unfold jQ at h;rw [e,hs] at h;simp at h
theorem Qt {w:World} {q cc:Nat} {b:Option Addr} (h:jQ w j mm) (hc:w.cell? ⟨g,i*3+2,none⟩=some (.slice b q cc)):j≠g:=λe=>by
 subst e;have h1:=aEW w j (i*3+2) _ _ (0,0) h;rw [hc] at h1;rcases i with _|_|i
 .simp at h1
 .simp at h1
 .rw [aFJ Aah] at h1;cases h1
theorem acJ (s:Sn) (low:Int):max s.l low=fQ s low:=by
 unfold fQ;split<;>omega
theorem rz.lift {w0 w w':World} {wb sb mb k:Nat} {n:Nd} {A:bq} {G:aK} {c:Nat->Nat} {v:Value} {L:List Mg} {low azb:Int} {l l':List Int} (h:rz w0 w wb sb mb k n A G c v L low l) (hb:kX w' sb mb azb) (hs:fF w' mb k l') (hk:aA [sb,mb] w w'):rz w0 w' wb sb mb k n A G c v L azb l':=
 ⟨h.wk.kc (KC.keeps hk (λx hx=>by
  have h2:x=sb\/x=mb:=Aag
  rcases h2 with rfl|rfl
  .exact h.cs
  .exact h.cm)) Aaa,hb,hs,h.cs,h.cm⟩
theorem ZX (m:Mg) (E:Nat->Addr) (i:Nat) (s0:Sn) (TT:Nd×Bool) (hi:i < n.seen.length) (hie:iN n.seen m.F=i) (hs0:n.seen[i]=s0) (hTT:takeN n m=TT) (hsl:n.seen.length<=1000) (hsn:vX s0=true) (hz:eF n 1048576) (hk:m.k.size<=1048576) (hL1:m.L<=1000000000) (hI0:0<=m.I) (hI1:m.I<=1000000000) (h:WK w0 w wb n A G c v L) (he:gY w0 E):
 Calls prog 223 #[.pointer (some ⟨wb,0,none⟩),nZ m] w λe w'=>e= .returned (.bool TT.2)/\(∃A' G' c',WK w0 w' wb TT.1 A' G' c' v L)/\∀j mm,jQ w j mm->jQ w' j mm:=by
 have HIX:=Hq (λB w1 (ha:gZ w1 A.s n.seen) hB=>afo A.s A.cs n.seen B m w1 hsl ha hB (by rw [hie];exact hi));rw [hie] at HIX;have HTH:Hid (sQ s0 m.L m.I=true->_):=λh=>hTT.symm.trans (KT hi hie hs0 h)
 have SE:Hid (sQ s0 m.L m.I=false->lY n s0 m=true->_):=λh hg=>hTT.symm.trans (Hf hi hie hs0 h hg)
 have HTN:Hid (sQ s0 m.L m.I=false->lY n s0 m=false->_):=λh hg=>hTT.symm.trans (Rx hi hie hs0 h hg)
 have Dz:=Hq (tZ (Mf hsn hL1));have aep:=Hq (tZ hsn);have HMX:=Hq (acJ s0 m.L);have HGS:=Hq (λw sb mb k A G c low l hkk hnd hf h=>RY w0 w wb sb mb k n A G c v L m low l E hz hk hI0 hI1 hkk hnd hf h he);have HGF:=Hq (λw sb mb k A G c low l hnd hf h=>RV w0 w wb sb mb k n A G c v L m low l hnd hf h);have H7:=Hq hs0;clear hz hk he hsn hL1 hTT hie hs0;have HW:=Hq h;obtain⟨mK,mF,mT,mI,mL,mk,mN⟩:=m;dsimp only at *;open auh in exact aaN
theorem adV (m:Mg) (E:Nat->Addr) (hz:eF n 1048576) (hok:dR n=true) (hF:dV n m.F=true) (hk:m.k.size<=1048576) (hL1:m.L<=1000000000) (hI0:0<=m.I) (hI1:m.I<=1000000000) (h:WK w0 w wb n A G c v L) (he:gY w0 E):
 Calls prog 223 #[.pointer (some ⟨wb,0,none⟩),nZ m] w λe w'=>e= .returned (.bool (takeN n m).2)/\(∃A' G' c',WK w0 w' wb (takeN n m).1 A' G' c' v L)/\∀j mm,jQ w j mm->jQ w' j mm:=by
 obtain⟨hi,hif⟩:=Gq hok hF;have hsn:=Bh hok _ (aE2 hi)
 have hsl:n.seen.length<=1000:=by
  exact ax3
 exact ZX w0 w wb n A G c v L m E _ _ _ hi rfl rfl rfl hsl hsn hz hk hL1 hI0 hI1 h he
open Go.RowKit
abbrev aDk (s:jC):Value:= .agg (gI s.i s.t s.k s.n)
theorem WI (s:jC) (B:Nat) (m:Mg) (w:World) (hB:jQ w B m):
 Calls prog 225 #[aDk s,.pointer (some ⟨B,0,none⟩)] w (dM w (.bool (iQ m s))):=by
 have hBl:=ay hB;obtain⟨⟨p0,p1,p2,p3,p4,p5,p6⟩,_⟩:=eD hB;clear hB;obtain⟨mK,mF,mT,mI,mL,mk,mN⟩:=m;obtain⟨si,st,sk,sn⟩:=s;unfold iQ;dsimp only at *;by_cases h1:si=mI
 .by_cases h2:st=mF
  .subst h1 h2;go_in
   go_wp2_with fail;go_ret;exact⟨Aac,au w _⟩
  .have q2:(st == mF)=false:=by simpa using h2
   subst h1;go_in
   go_wp2_with fail;go_ret;exact⟨by simp[h2],au w _⟩
 .have q1:(si == mI)=false:=Aaw
  go_in
  go_wp2_with fail;go_ret;exact⟨Abc,au w _⟩
def qz (l:List jC) (m:Mg):Nat:=l.findIdx (iQ m)
theorem afp (a:Option Addr) (cap:Nat) (l:List jC) (B:Nat) (m:Mg) (w:World) (hl:l.length<=1000) (ha:SentAt w a l) (hB:jQ w B m):
 Calls prog 253 #[.slice a l.length cap,.func (.func 225) #[] #[.pointer (some ⟨B,0,none⟩)]] w λe w'=>e= .returned (.int .i64 (if qz l m < l.length then(qz l m:Int) else -1))/\aH w w':=by
 have HC:=Hq (λs w1 (hb:aH w w1)=>WI s B m w1 (aj hB hb));have HA:=Hq ha
 have HN:Hid (∀i (hi:i < l.length),i < qz l m->iQ m l[i]=false):=λi hi h=>by
  have:=List.not_of_lt_findIdx h
  simpa using this
 have HY:Hid (∀(hi:qz l m < l.length),iQ m l[qz l m]=true):=λhi=>aGL (w:=hi)
 have HLE:Hid (qz l m<=l.length):=List.findIdx_le_length;clear ha hB;generalize qz l m=R at *;go_in
 go_wp2_with fail;go_loopw [8] (λi wr=>∃k:Nat,k<=R/\i= .int .i64 k/\aH w wr) (λi _=>l.length - (intOf i).toNat)
 case atStart=>exact BP
 case round=>
  obtain⟨k,hk,rfl,hbw⟩:=hrel;have HB:=Hq hbw;by_cases hkl:k < l.length
  .have aCn:(k:Int) < (l.length:Int):=Aaa
   obtain⟨g,off,e0,hg,q0,q1,q2,q3⟩:=SentAt.four (GR.At.below HA hbw) k hkl;have HCk:=Hq (HC l[k]);have HNk:=Hq (HN k hkl)
   have HYk:Hid (k=R->iQ m l[k]=true):=λe=>by
    subst e
    exact HY hkl
   subst e0;clear hbw HC HN HY;generalize l[k]=sk at *;obtain⟨si,st,sx,sn⟩:=sk;dsimp only at q0 q1 q2 q3 HCk HNk HYk;by_cases hR:k=R
   .have hq:=ah HYk hR;subst hR;open arN in exact VJ
   .have hq:=ah HNk Aaa;open arM in exact VJ
  .have hRl:¬R < l.length:=Aaa
   have hke:k=l.length:=by have:=ah HLE;omega
   subst hke;have hnlt:decide ((l.length:Int) < (l.length:Int))=false:=Aac
   go_wp2_with fail;go_ret;exact⟨Aac,HB⟩
abbrev zS:List Value:=[.int .i64 0,.int .i64 0,.string ⟨#[]⟩,.int .i64 0]
theorem Jc (w:World) (ty:TypeId) (g o c:Nat) (cur:Array Value) (hg:w.heap[g]?=some (.cells cur 145 (0,0))) (hfit:o+4<=cur.size):
 (Builtin.clear_ #[35] ty #[.slice (some ⟨g,o,none⟩) 1 c]).run prog w= .ok (.tuple #[]) (w.setRow g (cur.toList.take o++zS++cur.toList.drop (o+4)).toArray):=by
 have hst:=run_storeCells_at prog g o 145 zS 0 cur w hg (by simpa using hfit) (by intro u hu;simp only[zS,aE8,aFR,or_false] at hu;rcases hu with rfl|rfl|rfl|rfl<;>rfl);have hzc:(Builtin.zeroCells (Value.cells (.agg (gI 0 0 ⟨#[]⟩ 0))) 1).toList=zS:=Aab
 have h1:(Builtin.clear_ #[35] ty #[.slice (some ⟨g,o,none⟩) 1 c]).run prog w=((storeCells ⟨g,o,none⟩ zS).run prog w).andThen λ_ w'=> .ok (.tuple #[]) w':=by
  simp[Builtin.clear_,run_underlying underlying35];rw [hzc]
 rw [h1,hst];rfl
theorem nD (l:List jC):(GR.flat aM l).length=l.length*4:=GR.flat_length aM 4 aR l
theorem Q5:∀(vs a b:List Value) (o:Nat),o+vs.length<=a.length->GR.setRun (a++b) o vs=GR.setRun a o vs++b:=by
 intro vs;induction vs with
 |nil=>intro a b o _;rfl
 |cons v vs ih=>
  intro a b o h;simp only[aF9] at h;show GR.setRun ((a++b).set o v) (o+1) vs=GR.setRun (a.set o v) (o+1) vs++b
  rw [List.set_append_left _ _ Aaa,ih _ _ _ (by rw [aF1];omega)]
abbrev SB (w:World) (g:Nat) (R:List jC) (rest:List Value):Prop:=w.heap[g]?=some (.cells (GR.flat aM R++rest).toArray 145 (0,0))
theorem SB.four {w:World} (h:SB w g R rest) (i:Nat) (hi:i < R.length):w.cell? ⟨g,i*4,none⟩=some (.int .i64 R[i].i)/\w.cell? ⟨g,i*4+1,none⟩=some (.int .i64 R[i].t)/\w.cell? ⟨g,i*4+2,none⟩=some (.string R[i].k)/\w.cell? ⟨g,i*4+3,none⟩=some (.int .i64 R[i].n):=by
 have hc:∀j,j < 4->w.cell? ⟨g,i*4+j,none⟩=(aM R[i])[j]?:=λj hj=>by
  rw [aEW w g _ _ 145 (0,0) h,aGi,aF8 (by rw [nD];omega)]
  exact GR.flat_at aM 4 aR R i hi j hj
 exact⟨hc 0 Aaa,hc 1 Aaa,hc 2 Aaa,hc 3 Aaa⟩
theorem SB.set {w:World} (h:SB w g R rest) (i:Nat) (hi:i < R.length) (x:jC):SB (GR.setW w g (i*4) (aM x)) g (R.set i x) rest:=by
 have h2:=GR.setW_blk (aM x) (o:=i*4) h;rw [Q5 _ _ _ _ (by rw [nD,aR];omega),GR.flat_set aM 4 aR R i x hi] at h2;exact h2
namespace Mth
def lT (l:List jC) (i k:Nat):List jC:=(l.eraseIdx i).take k++l.drop k
theorem TM (h:i < l.length):lT l i i=l:=by
 unfold lT;rw [List.eraseIdx_eq_take_drop_succ,List.take_append_of_le_length Abk,aGB,Nat.min_self,aFE]
theorem Pt (h:i < l.length) (hk:k < l.length):(lT l i k).length=l.length:=by
 unfold lT;rw [aER,aFf,aFK h,aFt];omega
theorem afh (h:i < l.length) (hk:k+1 < l.length):(lT l i k)[k+1]?=some l[k+1]:=by
 unfold lT;rw [List.getElem?_append_right (by rw [aFf,aFK h];omega),aFf,aFK h,List.getElem?_drop];rw [show k+(k+1 - min k (l.length - 1))=k+1 by omega,aEQ hk]
theorem Yj (h:i<=k) (hk:k+1 < l.length):(lT l i k).set k l[k+1]=lT l i (k+1):=by
 have hlt:(List.take k (l.eraseIdx i)).length=k:=by rw [aFf,aFK Aaa];omega
 unfold lT;rw [aGb _ _ Aaa,hlt,Nat.sub_self,aFy (show k < l.length by omega),List.set_cons_zero];have hke:k < (l.eraseIdx i).length:=by rw [aFK Aaa];omega
 rw [aEV hke,List.getElem_eraseIdx_of_ge hke h,aFr];rfl
theorem abP (h:i < l.length):lT l i (l.length - 1)=l.eraseIdx i++l.drop (l.length - 1):=by
 unfold lT;rw [aGh (by rw [aFK h];omega)]
theorem abq {l:List jC} {m:Mg} (h:¬qz l m < l.length):l.filter (λs=> !iQ m s)=l:=by
 rw [List.filter_eq_self];intro s hs;have h1:¬∃x∈l,iQ m x=true:=λhx=>h (List.findIdx_lt_length_of_exists hx)
 cases hq:iQ m s with
 |false=>rfl
 |true=>exact absurd ⟨s,hs,hq⟩ h1
theorem aeV {m:Mg} (hp:l.Pairwise (λs t=>s.i < t.i)) (h:qz l m < l.length):l.filter (λs=> !iQ m s)=l.eraseIdx (qz l m):=by
 have hy:iQ m l[qz l m]=true:=aGL (w:=h);have hid:l[qz l m].i=m.I:=(aE5 hy).1
 have hno:∀j (hj:j < l.length),j≠qz l m->iQ m l[j]=false:=λj hj hne=>by
  cases hq:iQ m l[j] with
  |false=>rfl
  |true=>
   exfalso
   have h1:l[j].i=m.I:=(aE5 hq).1;rcases Nat.lt_or_gt_of_ne hne with hlt|hgt
   .have:=aFQ.1 hp j _ hj h hlt;omega
   .have:=aFQ.1 hp _ j h hj hgt;omega
 have e:l=l.take (qz l m)++l[qz l m]::l.drop (qz l m+1):=by rw [<-aFy h,aFE]
 rw [List.eraseIdx_eq_take_drop_succ];generalize qz l m=R at *;have ef:l.filter (λs=> !iQ m s)=(l.take R++l[R]::l.drop (R+1)).filter (λs=> !iQ m s):=by rw [<-e]
 rw [ef,List.filter_append,List.filter_cons_of_neg (by rw [hy];simp)];congr 1
 .rw [List.filter_eq_self];intro s hs;obtain⟨j,hj,rfl⟩:=aFY.1 hs;rw [aFf] at hj;rw [List.getElem_take,hno j Aaa Aaa];rfl
 .rw [List.filter_eq_self];intro s hs;obtain⟨j,hj,rfl⟩:=aFY.1 hs;rw [aFt] at hj;rw [List.getElem_drop,hno (R+1+j) Aaa Aaa];rfl
end Mth
theorem TF (g cap:Nat) (l:List jC) (rest:List Value) (B R:Nat) (m:Mg) (w:World) (hl:l.length<=1000) (hR:R < l.length) (hno:∀j (hj:j < l.length),R < j->iQ m l[j]=false) (hnc:l.length<=cap) (hcm:cap<=maxLen) (hrl:l.length*4+rest.length=cap*4) (hB:jQ w B m) (hS:SB w g l rest) (hix:Calls Tryz.prog 253 #[.slice (some ⟨g,0,none⟩) l.length cap,.func (.func 225) #[] #[.pointer (some ⟨B,0,none⟩)]] w (dM w (.int .i64 (R:Int)))):
 Calls Tryz.prog 224 #[.slice (some ⟨g,0,none⟩) l.length cap,.func (.func 225) #[] #[.pointer (some ⟨B,0,none⟩)]] w λe w'=>e= .returned (.slice (some ⟨g,0,none⟩) (l.length - 1) cap)/\(∃ajj,SB w' g (l.eraseIdx R) ajj/\(l.length - 1)*4+ajj.length=cap*4)/\w.grownBy w' (some g):=by
 have hne:B≠g:=λe=>by
  unfold jQ at hB
  unfold SB at hS
  rw [e,hS] at hB
  simp at hB
 have HC:=Hq (λs w1 (hg:w.grownBy w1 (some g))=>WI s B m w1 ((hg.block B (ay hB) (λe=>hne (by injection e))).trans hB));have mP:=Hq hno;have H7:=Hq hS;have HIX:=Hq hix;have hRI:¬((R:Int)= -1):=Aaa
 have hRb:((R:Int) == -1)=false:=aGm.2 hRI;clear hB hno hS hix hne;go_in
 go_wp2_with fail;refine HIX.mono ?_;rintro e w1 ⟨rfl,hb1⟩;have zB:=Hq (aj H7 hb1);have zI:=Hq (gL hb1 (some g));clear hb1 HIX;go_wp2_with fail;go_loopw [5,6] (λi j wr=>∃k jj:Nat,jj=k+1/\R<=k/\k < l.length/\i= .int .i64 k/\j= .int .i64 jj/\SB wr g (lT l R k) rest/\w.grownBy wr (some g)) (λi j _=>l.length - (intOf j).toNat)
 case atStart=>exact⟨R,R+1,rfl,aEM _,hR,rfl,rfl,by rw [TM hR];exact zB,zI⟩
 case round=>
  obtain⟨k,jj,hjj,hk1,hk2,rfl,rfl,hSk,hGk⟩:=hrel;have HJJ:=Hq hjj;have HSk:=Hq hSk;have HGk:=Hq hGk;have hgl:=ay hSk;clear hSk hGk;by_cases hlt:k+1 < l.length
  .have PE:(jj:Int) < (l.length:Int):=Aaa
   have hkI:(k:Int) < (l.length:Int):=Aaa
   have ayC:k+1 < (lT l R k).length:=by rw [Pt hR hk2];exact hlt
   have hqs:=SB.four HSk (k+1) ayC
   have hat:(lT l R k)[k+1]=l[k+1]:=by
    have:=afh hR hlt;rw [aEQ ayC] at this;exact aFD this
   rw [hat] at hqs;have HST:=Hq (Yj hk1 hlt);have HNk:=Hq (mP (k+1) hlt Aaa);have HCk:=Hq (HC l[k+1]);clear hat;generalize l[k+1]=sk at *;rw [<-hjj] at hqs;obtain⟨q0,q1,q2,q3⟩:=hqs;clear hjj;obtain⟨si,st,sx,sn⟩:=sk;dsimp only at q0 q1 q2 q3 HNk HCk;go_upto_region 8 with fail;refine wp_at (λW hW=>?_);have e1:W.heap[wr.heap.size]?=some (.cells (gI si st sx sn) 145 (0,0)):=Acl
   have iK:Hid (aH wr W):=by rw [hW];exact au wr _
   obtain⟨c0,c1,c2,c3⟩:=iD e1;have hwl:=ay e1;have E1:=Hq e1;clear hW e1 q0 q1 q2 q3;go_wp2_with fail;refine(HCk W (HGk.andThen (gL iK none) (λj hj=>by cases hj))).mono ?_;rintro e W2 ⟨rfl,hb2⟩;have E2:=Hq (aj E1 hb2);have HB2:=Hq (iK.trans (hb2.mono iK.size));have HS2:=Hq (aj HSk HB2);have HG2:=Hq (HGk.andThen (gL HB2 none) (λj hj=>by cases hj));have ayG:k < (lT l R k).length:=Aaa
   obtain⟨r0,r1,r2,r3⟩:=SB.four HS2 k ayG;have f0:=aC HS2 (k*4);have f1:=aC HS2 (k*4+1);have f2:=aC HS2 (k*4+2);have f3:=aC HS2 (k*4+3);have aDO:=ay HS2;have ak3:=ay E2;rw [ah HNk];clear c0 c1 c2 c3 hb2;obtain⟨c0,c1,c2,c3⟩:=iD E2;have wZ:=Hq (SB.set HS2 k ayG ⟨si,st,sx,sn⟩)
   have Ii:Hid (W2.grownBy (GR.setW W2 g (k*4) (aM ⟨si,st,sx,sn⟩)) (some g)):=by
    have h:=gB (g:=g) (aM ⟨si,st,sx,sn⟩) W2 (k*4);exact⟨h.os,h.tape,h.output,h.size,λx hx hne=>h.block x hx (λhm=>hne (by have:x=g:=(by simpa using hm);rw [this]))⟩
   rw [ah HST] at wZ;go_wp2_with fail;go_roundw
   case rel=>exact⟨k+1,jj+1,by have:=ah HJJ;omega,Aaa,hlt,Aaf,Aaf,wZ,HG2.andThen Ii (λj hj=> .inr hj)⟩
   case measure=>simp[intOf];omega
  .have hke:l.length - 1=k:=Aaa
   have hjl:jj=l.length:=Aaa
   have akF:l.length - k=1:=Aaa
   have ayD:=Pt hR hk2;have hend:=abP hR;rw [hke] at hend;have hel:(l.eraseIdx R).length=k:=by rw [aFK hR];exact hke
   have hXl:(GR.flat aM (lT l R k)++rest).length=cap*4:=by rw [aER,nD,ayD];exact hrl
   have hcl:∀ty c,(Builtin.clear_ #[35] ty #[.slice (some ⟨g,k*4,none⟩) 1 c]).run Tryz.prog wr= .ok (.tuple #[]) (wr.setRow g ((GR.flat aM (lT l R k)++rest).take (k*4)++zS++(GR.flat aM (lT l R k)++rest).drop (k*4+4)).toArray):=λty c=>by
    have h:=Jc wr ty g (k*4) c _ HSk (by rw [aFH,hXl];omega)
    exact h
   have HFB:Hid (SB (wr.setRow g ((GR.flat aM (lT l R k)++rest).take (k*4)++zS++(GR.flat aM (lT l R k)++rest).drop (k*4+4)).toArray) g (l.eraseIdx R) (zS++(GR.flat aM (lT l R k)++rest).drop (k*4+4))):=by
    have h:=setRow_heap wr g _ ((GR.flat aM (lT l R k)++rest).take (k*4)++zS++(GR.flat aM (lT l R k)++rest).drop (k*4+4)).toArray 145 _ HSk
    have ht:(GR.flat aM (lT l R k)++rest).take (k*4)=GR.flat aM (l.eraseIdx R):=by
     rw [hend,GR.flat_append,aFr];exact List.take_left' (by rw [nD,hel])
    rw [ht] at h;show SB _ g (l.eraseIdx R) _
    unfold SB;rw [<-aFr,ht];exact h
   have HRL:Hid (k*4+(zS++(GR.flat aM (lT l R k)++rest).drop (k*4+4)).length=cap*4):=by
    show k*4+(zS++(GR.flat aM (lT l R k)++rest).drop (k*4+4)).length=cap*4
    rw [aER,aFt,hXl];show k*4+(4+_)=_
    omega
   have HGF:Hid (w.grownBy (wr.setRow g ((GR.flat aM (lT l R k)++rest).take (k*4)++zS++(GR.flat aM (lT l R k)++rest).drop (k*4+4)).toArray) (some g)):=by
    refine HGk.andThen (row':=some g) ⟨rfl,rfl,rfl,Aac,λx hx hne=>setRow_other wr g x _ (λe=>hne Aap)⟩ (λj hj=> .inr hj)
   have hkc:k<=cap:=Aaa
   have hkI:(k:Int)<=(l.length:Int):=Aaa
   have aDX:(k:Int)<=(cap:Int):=Aaa
   have hcm2:cap<=9223372036854775807:=Acb
   have HKE:=Hq hke;generalize (GR.flat aM (lT l R k)++rest).take (k*4)++zS++(GR.flat aM (lT l R k)++rest).drop (k*4+4)=X2 at *;subst hjl;have hnlt:decide ((l.length:Int) < (l.length:Int))=false:=Aac
   clear HC mP H7 zB zI HSk HGk hend hXl hel ayD hlt hke;go_wp2_with (simp only[akF,hcl])
   go_ret;exact⟨by rw [ah HKE];first|done|rfl,⟨_,HFB,by rw [ah HKE];exact HRL⟩,HGF⟩
def aac (w:World) (B:Nat) (v:Value) (l:List jC) (e:Ending) (w':World):Prop:=∃a c,e= .returned (.slice a l.length c)/\w'.ownsRow B 145 4 (.slice a l.length c) l.length (GR.flat aM l)/\w.grownBy w' v.ownBlock/\∀x,(Value.slice a l.length c).ownBlock=some x->v.ownBlock=some x
theorem LJ (a:Option Addr) (cap:Nat) (l:List jC) (B:Nat) (w:World) (hix:Calls Tryz.prog 253 #[.slice a l.length cap,.func (.func 225) #[] #[.pointer (some ⟨B,0,none⟩)]] w (dM w (.int .i64 (-1)))):
 Calls Tryz.prog 224 #[.slice a l.length cap,.func (.func 225) #[] #[.pointer (some ⟨B,0,none⟩)]] w (dM w (.slice a l.length cap)):=by
 have HIX:=Hq hix;clear hix;go_in
 go_wp2_with fail;refine HIX.mono ?_;rintro e w1 ⟨rfl,hb1⟩;have HB:=Hq hb1;clear hb1 HIX;go_wp2_with fail;go_ret;exact⟨rfl,HB⟩
theorem ae8 (B0:Nat) (a:Option Addr) (cap:Nat) (l:List jC) (B:Nat) (m:Mg) (w:World) (hl:l.length<=1000) (hp:l.Pairwise (λs t=>s.i < t.i)) (hB:jQ w B m) (ho:w.ownsRow B0 145 4 (.slice a l.length cap) l.length (GR.flat aM l)):
 Calls Tryz.prog 224 #[.slice a l.length cap,.func (.func 225) #[] #[.pointer (some ⟨B,0,none⟩)]] w (aac w B0 (.slice a l.length cap) (l.filter (λs=> !iQ m s))):=by
 have hat:SentAt w a l:=by
  obtain⟨a',cp,he,ha⟩:=GR.own_at (enc:=aM) (sz:=4) (l:=l) aR ho;cases he
  exact ha
 have hix:=afp a cap l B m w hl hat hB;by_cases h:qz l m < l.length
 .rw [aE7 h] at hix;rw [aeV hp h];have hy:iQ m l[qz l m]=true:=aGL (w:=h);have hid:l[qz l m].i=m.I:=(aE5 hy).1
  have hno:∀j (hj:j < l.length),qz l m < j->iQ m l[j]=false:=λj hj hlt=>by
   cases hq:iQ m l[j] with
   |false=>rfl
   |true=>
    exfalso
    have h1:l[j].i=m.I:=(aE5 hq).1;have:=aFQ.1 hp _ j h hj hlt;omega
  open auq in exact aaP
 .rw [aEX h] at hix;rw [abq h];refine(LJ a cap l B w hix).mono ?_;rintro e w' ⟨rfl,hb⟩;exact⟨a,cap,rfl,GR.own_below ho hb,gL hb _,λx hx=>hx⟩
theorem WK.setOut {w0 w:World} {wb:Nat} {n:Nd} {A:bq} {G:aK} {c:Nat->Nat} {v:Value} {L:List Mg} {a:Option Addr} {cp:Nat} (h:WK w0 w wb n A G c v L) (hg:w.grownBy w' (Value.slice A.o n.out.length A.co).ownBlock) (ho:w'.ownsRow w0.heap.size 145 4 (.slice a l.length cp) l.length (GR.flat aM l)) (hx:∀x,(Value.slice a l.length cp).ownBlock=some x->(Value.slice A.o n.out.length A.co).ownBlock=some x):
 w'.heap[wb]?=some (.cells (Xq n A v) 215 (0,0))/\WK w0 (w'.setCell ⟨wb,5,none⟩ (.slice a l.length cp)) wb (setOut n l) ⟨A.k,A.p,a,A.s,A.r,A.ck,A.cp,cp,A.cs,A.cr⟩ G c v L:=by
 have hN:=h.no;have k3:KC c 3 w w':=KC.grown hg (λx hx=>hN.co x hx);have hb1:=k3.obj h.blk (by rw [h.cw];omega);have k8:KC c 8 w' (w'.setCell ⟨wb,5,none⟩ (.slice a l.length cp)):=KC.set h.cw;have hbel:=k3.below h.keep hN.lo Aaa h.keep.size;have hco:∀x,(Value.slice a l.length cp).ownBlock=some x->c x=3:=λx hx'=>hN.co x (hx x hx')
 refine⟨hb1,k8.below hbel hN.lo Aaa (aEP h.keep.size k3.size),aN hb1 5 (.slice a l.length cp),⟨k8.w (k3.w hN.k hN.ck Aaa) hN.ck Aaa,k8.w (k3.w hN.p hN.cp Aaa) hN.cp Aaa,k8.own ho hco Aaa,k8.seen (k3.seen hN.s hN.c4 hN.ci Aaa Aaa) hN.c4 hN.ci Aaa Aaa,k8.own (k3.own hN.r hN.cr Aaa) hN.cr Aaa,hN.lo,hN.ck,hN.cp,hco,hN.c4,hN.ci,hN.cr,hN.ni⟩,k8.own (k3.own h.m h.cm Aaa) h.cm Aaa,h.cm,h.cw⟩
theorem Vb (o:gJ) (hz:eF n 1048576) (hb:hasB n.kids o.m.F=false) (hK:o.m.K=0) (h:WK w0 w wb n A G c v L):Calls Tryz.prog 205 #[.pointer (some ⟨wb,0,none⟩),jP o] w λe w'=>e= .returned (.int .i64 (fO n o.m).2.2)/\∃A' G' c' v',WK w0 w' wb (fO n o.m).1 A' G' c' v' (L++(fO n o.m).2.1):=by
 have HKD:=Hq (λw1 (ha:bY w1 A n)=>Cj n A o.m.F w1 (aEP hz.k Aaa) ha.k);rw [hb] at HKD
 have HR:Hid (fO n o.m=(n,[],1)):=by
  show fO n o.m=_
  unfold fO;rw [aEX Aaa,aEX Aaa,aEX (by rw [hb];simp)]
 rw [ah HR];clear hz hb HR;open aBC in exact awy
theorem RZ (o:gJ) (E:Nat->Addr) (hz:eF n 1048576) (hok:dR n=true) (hm:bV o.m=true) (hL:L.length<=2097100) (hb:hasB n.kids o.m.F=true) (hK:o.m.K=0) (h:WK w0 w wb n A G c v L) (he:gY w0 E):Calls Tryz.prog 205 #[.pointer (some ⟨wb,0,none⟩),jP o] w λe w'=>e= .returned (.int .i64 (fO n o.m).2.2)/\∃A' G' c' v',WK w0 w' wb (fO n o.m).1 A' G' c' v' (L++(fO n o.m).2.1):=by
 have hw:=Kg hm hK;have HKD:=Hq (λw1 (ha:bY w1 A n)=>Cj n A o.m.F w1 (aEP hz.k Aaa) ha.k);rw [hb] at HKD;have Iq:=Hq (λW (hW:WK w0 W wb n A G c v L)=>ajl w0 W wb n A G c v L o.m.F o.m.k o.m.N E hok hw.1 hw.2.1 hw.2.2 hL hW he)
 have HR:Hid (fO n o.m=((eY n o.m.F o.m.k o.m.N).1,(eY n o.m.F o.m.k o.m.N).2.1,0)):=by
  show fO n o.m=_
  unfold fO;rw [aEX Aaa,aEX Aaa,aE7 hb]
 rw [ah HR];clear hz hok hm hL he HR hw hb;generalize eY n o.m.F o.m.k o.m.N=TT at *;open aBB in exact awy
theorem CX (o:gJ) (E:Nat->Addr) (hz:eF n 1048576) (hok:dR n=true) (hm:bV o.m=true) (hF:dV n o.m.F=true) (hks:o.m.k.size<=1048576) (hL:L.length<=2097100) (hb:(takeN n o.m).2=false) (hK:o.m.K=1) (h:WK w0 w wb n A G c v L) (he:gY w0 E):Calls Tryz.prog 205 #[.pointer (some ⟨wb,0,none⟩),jP o] w λe w'=>e= .returned (.int .i64 (fO n o.m).2.2)/\∃A' G' c' v',WK w0 w' wb (fO n o.m).1 A' G' c' v' (L++(fO n o.m).2.1):=by
 have hw:=F6 hm hK;have OI:=Hq (λW (hW:WK w0 W wb n A G c v L)=>adV w0 W wb n A G c v L o.m E hz hok hF hks hw.2.2.2.1 Aaa hw.2.1 hW he);rw [hb] at OI
 have HR:Hid (fO n o.m=((takeN n o.m).1,[],1)):=by
  show fO n o.m=_
  unfold fO;rw [aE7 hK,hb];rfl
 open auS in exact ag4
theorem Ej (o:gJ) (E:Nat->Addr) (hz:eF n 1048576) (hok:dR n=true) (hm:bV o.m=true) (hF:dV n o.m.F=true) (hks:o.m.k.size<=1048576) (hL:L.length<=2097100) (hb:(takeN n o.m).2=true) (hK:o.m.K=1) (h:WK w0 w wb n A G c v L) (he:gY w0 E):Calls Tryz.prog 205 #[.pointer (some ⟨wb,0,none⟩),jP o] w λe w'=>e= .returned (.int .i64 (fO n o.m).2.2)/\∃A' G' c' v',WK w0 w' wb (fO n o.m).1 A' G' c' v' (L++(fO n o.m).2.1):=by
 have hw:=F6 hm hK;have OI:=Hq (λW (hW:WK w0 W wb n A G c v L)=>adV w0 W wb n A G c v L o.m E hz hok hF hks hw.2.2.2.1 Aaa hw.2.1 hW he);rw [hb] at OI
 have HR:Hid (fO n o.m=((takeN n o.m).1,[XY n o.m],0)):=by
  show fO n o.m=_
  unfold fO;rw [aE7 hK,hb];rfl
 open auR in exact ag4
theorem Va (o:gJ) (hok:dR n=true) (hK:o.m.K=2) (h:WK w0 w wb n A G c v L):Calls Tryz.prog 205 #[.pointer (some ⟨wb,0,none⟩),jP o] w λe w'=>e= .returned (.int .i64 (fO n o.m).2.2)/\∃A' G' c' v',WK w0 w' wb (fO n o.m).1 A' G' c' v' (L++(fO n o.m).2.1):=by
 have ho:=sZ (bE hok).2.2.2.2.1;have HDL:=Hq (λW B (hB:jQ W B o.m) hO=>ae8 w0.heap.size A.o A.co n.out B o.m W Aaa ho.1 hB hO);unfold aac at HDL
 have HR:Hid (fO n o.m=(setOut n (n.out.filter (λs=> !iQ o.m s)),[],0)):=by
  show fO n o.m=_
  unfold fO;rw [aEX Aaa,aE7 hK]
 rw [ah HR];clear hok ho HR;open arD in exact aj8
theorem alL (o:gJ) (E:Nat->Addr) (hz:eF n 1048576) (hok:dR n=true) (hm:bV o.m=true) (hF:dV n o.m.F=true) (hks:o.m.k.size<=1048576) (hL:L.length<=2097100) (h:WK w0 w wb n A G c v L) (he:gY w0 E):Calls Tryz.prog 205 #[.pointer (some ⟨wb,0,none⟩),jP o] w λe w'=>e= .returned (.int .i64 (fO n o.m).2.2)/\∃A' G' c' v',WK w0 w' wb (fO n o.m).1 A' G' c' v' (L++(fO n o.m).2.1):=by
 rcases Ke hm with hK|hK|hK
 .cases hb:hasB n.kids o.m.F with
  |false=>exact Vb w0 w wb n A G c v L o hz hb hK h
  |true=>exact RZ w0 w wb n A G c v L o E hz hok hm hL hb hK h he
 .cases hb:(takeN n o.m).2 with
  |false=>exact CX w0 w wb n A G c v L o E hz hok hm hF hks hL hb hK h he
  |true=>exact Ej w0 w wb n A G c v L o E hz hok hm hF hks hL hb hK h he
 .exact Va w0 w wb n A G c v L o hok hK h
end Go.Proofs.YtbolgdleijjgfaaGreatDoor
